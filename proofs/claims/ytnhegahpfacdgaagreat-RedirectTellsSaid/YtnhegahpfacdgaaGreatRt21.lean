import Derived.Test.YtnhegahpfacdgaaGreatRt18
import Derived.Test.YtnhegahpfacdgaaGreatRt20
import Derived.Test.YtnhegahpfacdgaaGreatRt17
import Derived.StillTailTactics
import Derived.IntWalk
import Derived.ScopeJumps
import Derived.WalkMore
import Derived.Lib.CutLaws
import Derived.Test.YtnhegahpfacdgaaGreatRt8
import Derived.BigQuiet
import Derived.Deep.QuietTactic

namespace Go.Proofs.YtnhegahpfacdgaaGreat.Plain
theorem snoc_ind {α:Type} {P:List α→Prop} (h0:P []) (h1:∀l x,P l→P (l++[x])):∀l,P l:=by
  intro l
  rw [←List.reverse_reverse l]
  generalize l.reverse=r
  induction r with
  | nil=>exact h0
  | cons x r ih=>rw [List.reverse_cons];exact h1 _ _ ih
theorem joinS_head (l:List (List UInt8)):∃b,joinS l=47::b:=by
  induction l using snoc_ind with
  | h0=>exact ⟨[],rfl⟩
  | h1 l x ih =>
    obtain ⟨b,hb⟩:=ih
    rw [joinS_snoc,hb]
    split
    · exact ⟨b++x,rfl⟩
    · exact ⟨b++[47]++x,rfl⟩
theorem fold_noslash (x:List UInt8) (hx:∀c∈x,c≠47):∀(o:List (List UInt8)) (y:List UInt8),x.foldl stepP (o++[y])=o++[y++x]:=by
  induction x with
  | nil=>intro o y;simp
  | cons c r ih =>
    intro o y
    rw [List.foldl_cons]
    have hc:c≠47:=hx c List.mem_cons_self
    have hs:stepP (o++[y]) c=o++[y++[c]]:=by
      unfold stepP
      rw [if_neg hc]
      have hl:(o++[y]).length - 1=o.length:=by simp
      rw [hl,List.set_append_right _ _ (Nat.le_refl _),Nat.sub_self,List.set_cons_zero]
      have hg:(o++[y]).getD o.length []=y:=by simp [List.getD]
      rw [hg]
    rw [hs,ih (fun c hc=>hx c (List.mem_cons_of_mem _ hc))]
    simp
theorem parts_join {l:List (List UInt8)} (h:∀x∈l,∀c∈x,c≠47):partsS (joinS l)=if l=[] then [[]] else l:=by
  induction l using snoc_ind with
  | h0=>rfl
  | h1 l x ih =>
    have ih:=ih (fun y hy=>h y (List.mem_append_left _ hy))
    have hx:=h x (List.mem_append_right _ (List.mem_singleton.2 rfl))
    rw [if_neg (by simp),joinS_snoc]
    by_cases hl:l=[]
    · subst hl
      simp only [List.length_nil,if_true]
      show ((x.foldl stepP ([]++[[]])):List (List UInt8))=[]++[x]
      rw [fold_noslash x hx]
      rfl
    · have hll:¬l.length=0:=by intro e;exact hl (List.eq_nil_of_length_eq_zero e)
      rw [if_neg hll]
      rw [if_neg hl] at ih
      obtain ⟨b,hb⟩:=joinS_head l
      rw [hb] at ih ⊢
      have ih2:b.foldl stepP [[]]=l:=ih
      show ((b++[47]++x).foldl stepP [[]])=l++[x]
      rw [List.foldl_append,List.foldl_append,ih2]
      have h47:List.foldl stepP l [47]=l++[[]]:=rfl
      rw [h47,fold_noslash x hx]
      rfl
theorem join_parts {s:List UInt8} (h:headB s=true):joinS (partsS s)=s:=by
  obtain ⟨r,rfl⟩:∃r,s=47::r:=by
    cases s with
    | nil=>simp [headB] at h
    | cons c r => exact ⟨r, by have : c = 47 := by simpa [headB] using h
                               rw [this]⟩
  show joinS (r.foldl stepP [[]])=47::r
  suffices hh:(r.foldl stepP [[]])≠[]∧joinS (r.foldl stepP [[]])=47::r from hh.2
  clear h
  induction r using snoc_ind with
  | h0=>exact ⟨by simp,rfl⟩
  | h1 r c ih =>
    obtain ⟨ih1,ih2⟩:=ih
    rw [List.foldl_append,List.foldl_cons,List.foldl_nil]
    generalize r.foldl stepP [[]]=P at ih1 ih2 ⊢
    by_cases hc:c=47
    · subst hc
      have hs:stepP P 47=P++[[]]:=rfl
      rw [hs]
      refine ⟨by simp,?_⟩
      rw [joinS_snoc,if_neg (by intro e;exact ih1 (List.eq_nil_of_length_eq_zero e)),ih2]
      simp
    · obtain ⟨Q,y,rfl⟩:∃Q y,P=Q++[y]:=⟨P.dropLast,P.getLast ih1,(List.dropLast_concat_getLast ih1).symm⟩
      have hs:stepP (Q++[y]) c=Q++[y++[c]]:=by
        have:=fold_noslash [c] (by intro d hd;rw [List.mem_singleton] at hd;rw [hd];exact hc) Q y
        simpa using this
      rw [hs]
      refine ⟨by simp,?_⟩
      rw [joinS_snoc,←List.append_assoc,←joinS_snoc,ih2]
      rfl
theorem nameB_noslash {x:List UInt8} (h:nameB x=true):∀c∈x,c≠47:=by
  intro c hc e
  simp only [nameB,Bool.and_eq_true,List.all_eq_true] at h
  have:=h.2 c hc
  subst e
  simp [letB] at this
theorem nameB_not {x:List UInt8} (h:nameB x=true):¬(x=[]∨x=[46])∧¬x=[46,46]:=by
  refine ⟨?_,?_⟩
  · rintro (rfl|rfl) <;> simp [nameB] at h
  · rintro rfl;simp [nameB] at h
theorem left_names {l:List (List UInt8)} (h:l.all nameB=true):leftS l=some l:=by
  induction l using snoc_ind with
  | h0=>rfl
  | h1 l x ih =>
    rw [List.all_append,Bool.and_eq_true] at h
    have hx:nameB x=true:=by simpa using h.2
    rw [leftS_snoc,ih h.1]
    obtain ⟨n1,n2⟩:=nameB_not hx
    simp only [stepC,if_neg n1,if_neg n2,hx,if_true]
theorem left_all {l o:List (List UInt8)} (h:leftS l=some o):o.all nameB=true:=by
  induction l using snoc_ind generalizing o with
  | h0=>cases h;rfl
  | h1 l x ih =>
    rw [leftS_snoc] at h
    cases hl:leftS l with
    | none=>rw [hl] at h;cases h
    | some o1 =>
      rw [hl] at h
      have i1:=ih hl
      unfold stepC at h
      simp only at h
      split at h
      · cases h;exact i1
      · split at h
        · split at h
          · cases h
          · cases h
            rw [List.all_eq_true] at i1 ⊢
            exact fun y hy=>i1 y (List.dropLast_subset _ hy)
        · split at h
          · rename_i hx
            cases h
            rw [List.all_append,i1]
            simpa using hx
          · cases h
theorem split_join {o:List (List UInt8)} (h:o.all nameB=true):splitB (joinS o)=true∧splitS (joinS o)=o:=by
  have hn:∀x∈o,∀c∈x,c≠47:=fun x hx=>nameB_noslash (List.all_eq_true.1 h x hx)
  have hp:=parts_join hn
  by_cases ho:o=[]
  · subst ho;exact ⟨rfl,rfl⟩
  · rw [if_neg ho] at hp
    obtain ⟨b,hb⟩:=joinS_head o
    have hh:headB (joinS o)=true:=by rw [hb];rfl
    have hne:joinS o≠[47]:=by
      intro e
      rw [e] at hp
      have:partsS [47]=[[]]:=rfl
      rw [this] at hp
      rw [←hp] at h
      simp [nameB] at h
    refine ⟨?_,?_⟩
    · unfold splitB
      rw [hh,hp,h]
      simp
    · unfold splitS
      rw [if_neg hne,hh,hp,h]
      rfl
theorem clean_join {o:List (List UInt8)} (h:o.all nameB=true):cleanB (joinS o)=true∧cleanS (joinS o)=joinS o:=by
  have hn:∀x∈o,∀c∈x,c≠47:=fun x hx=>nameB_noslash (List.all_eq_true.1 h x hx)
  have hp:=parts_join hn
  obtain ⟨b,hb⟩:=joinS_head o
  have hh:headB (joinS o)=true:=by rw [hb];rfl
  have hl:leftS (partsS (joinS o))=some o:=by
    rw [hp]
    by_cases ho:o=[]
    · subst ho;rfl
    · rw [if_neg ho];exact left_names h
  refine ⟨?_,?_⟩
  · unfold cleanB;rw [hh,hl];rfl
  · unfold cleanS;rw [if_pos hh,hl]
theorem split_back {s:List UInt8} (h:splitB s=true):joinS (splitS s)=s∧cleanB s=true∧cleanS s=s:=by
  have key:(splitS s).all nameB=true∧joinS (splitS s)=s:=by
    by_cases h1:s=[47]
    · subst h1;exact ⟨rfl,rfl⟩
    · have h2:(headB s&&(partsS s).all nameB)=true:=by
        unfold splitB at h
        rw [Bool.or_eq_true,beq_iff_eq] at h
        rcases h with h|h
        · exact absurd h h1
        · exact h
      unfold splitS
      rw [if_neg h1,if_pos h2]
      rw [Bool.and_eq_true] at h2
      exact ⟨h2.2,join_parts h2.1⟩
  obtain ⟨k1,k2⟩:=key
  have:=clean_join k1
  rw [k2] at this
  exact ⟨k2,this⟩
end Go.Proofs.YtnhegahpfacdgaaGreat.Plain

namespace Go.Proofs.YtnhegahpfacdgaaGreat
open Go.RowKit Plain
theorem ext_one {s:List UInt8} {j:Nat} (h:j < s.length):ByteArray.extract ⟨s.toArray⟩ j (j+1)=⟨[s[j]].toArray⟩:=by
 apply ByteArray.ext
 simp only [ByteArray.data_extract]
 apply Array.toList_inj.1
 rw [Array.toList_extract]
 simp only [List.extract_eq_take_drop,Nat.add_sub_cancel_left,List.toList_toArray]
 rw [List.drop_eq_getElem_cons h]
 rfl

set_option maxRecDepth 100000 in
set_option maxHeartbeats 1600000 in
theorem Rparts_any {s:List UInt8} (w:World) (hm:s.length≤1100000) :
  Calls Tryz.prog 83 #[st s] w (ORet st w 9 (partsS s).length (partsS s)):=by
 show Calls _ _ #[.string ⟨s.toArray⟩] _ _
 go_enter Tryz.func83,Tryz.ntmps83
 go_wp2_with fail
 go_loopw [3,4] (fun v i wr=>∃(j p:Nat) (o:List (List UInt8)),1≤j∧(j≤s.length∨j=1)∧i=.int .i64 j∧o=partsTo s j∧(∃A c,v=.slice A p c∧Ow st wr w.heap.size 9 A p c o)∧Below w.heap.size w wr) (fun _ i _=>s.length - (intOf i).toNat)
 case atStart=>exact ⟨1,1,[[]],by omega,.inr rfl,rfl,(partsTo_one s).symm,⟨_,_,rfl,Ow.lit w _ (cs:=[.string ⟨#[]⟩]) rfl rfl (by omega)⟩,below_new (below_self w) _⟩
 case round =>
  obtain ⟨j,p,o,hj1,hj2,rfl,hoe,⟨A1,c1,rfl,hown⟩,hbel⟩:=hrel
  obtain ⟨hp1,hp2,hp3⟩:=partsTo_len s j
  rw [←hoe] at hp1 hp2 hp3
  have hop:=hown.len
  rw [hop] at hp1 hp2
  have HO:=hide hown
  have HB:=hide hbel
  by_cases hlt:j < s.length
  ·obtain ⟨x,hx⟩:∃x,x=s[j]:=⟨_,rfl⟩
   have hjs:j < ByteArray.size ⟨s.toArray⟩:=hlt
   have hbj:(⟨s.toArray⟩:ByteArray)[j]'hjs=x:=hx.symm
   have hs:=partsTo_succ hj1 hlt
   rw [←hoe,←hx] at hs
   by_cases hc:x=47
   ·have hs2:partsTo s (j+1)=o++[[]]:=by rw [hs];simp [stepP,hc]
    have HS:=hide hs2
    have htest:((x.toNat:Int)==47)=true:=by rw [hc];rfl
    clear hs hs2 hown hbel hoe hp3 hj2 hop hx hc
    go_wp2_with (at_builtin;refine wpList_append_Rd _ rfl (.tmp 16) (.tmp 17) 30 rfl w.heap.size 9 _ 16 Tryz.underlying30 info_st rfl st_one _ p _ o rfl (HO.out.alloc _) _ _ 1 1 _ rfl (Rd.one _ _ rfl) (p+1) rfl (by omega) (by omega) (by have:=HB.out.size;simp;omega) ?_;intro A2 c2 w1 hown1 hbel1;have HO1:=hide hown1;have HB1:=hide ((HB.out.alloc HB.out.size _).trans hbel1);clear hown1 hbel1)
    go_roundw
    case rel=>exact ⟨j+1,p+1,_,by omega,by omega,by go_num,HS.out.symm,⟨_,_,rfl,HO1.out⟩,HB1.out⟩
    case measure=>simp [intOf];omega
   ·obtain ⟨g,rfl,hg,hgl,hcg,hfz⟩:=hown.at_ (by omega)
    obtain ⟨y,hy⟩:∃y,y=o.getD (p - 1) []:=⟨_,rfl⟩
    have hcell:=hcg (p - 1) y (by rw [hy];simp only [List.getD];rw [List.getElem?_eq_getElem (by omega)];rfl)
    have hyl:y.length≤j:=by
     apply hp3
     rw [hy]
     simp only [List.getD]
     rw [List.getElem?_eq_getElem (by omega)]
     exact List.getElem_mem (by omega)
    obtain ⟨z,hz⟩:∃z,y++[x]=z:=⟨_,rfl⟩
    have hs2:partsTo s (j+1)=o.set (p - 1) z:=by rw [hs];simp only [stepP,if_neg hc,hop,←hy,hz]
    have hex:=ext_one hlt
    rw [←hx] at hex
    have ad:=add_lists (P:=Tryz.prog) (x:=y) (y:=[x]) (by simp;omega) hz
    have hst:=hown.drew.set_ (p:=p - 1) (u:=st z) (y:=z) rfl
    have hbs:=hbel.drew.setCell (p:=⟨g,p - 1,none⟩) hg (st z)
    have hf:=hfz (p - 1)
    have htest:((x.toNat:Int)==47)=false:=by
     simp only [beq_eq_false_iff_ne,ne_eq]
     intro e
     apply hc
     apply UInt8.toNat_inj.1
     have:x.toNat=47:=by omega
     rw [this]
     rfl
    have HS:=hide hs2
    have HST:=hide hst
    have HBS:=hide hbs
    unfold st at hcell
    clear hs hs2 hown hbel hoe hp3 hj2 hop hx hc hy hz hcg hfz hst hbs
    have hw1:IntKind.i64.wrap ((p:Int) - 1)=(p:Int) - 1:=IntWalk.i64_in _ (by omega)
    have hw2:((p:Int) - 1).toNat=p - 1:=by omega
    have hw3:(0:Int)≤(p:Int) - 1:=by omega
    have hw4:(p:Int) - 1 < (p:Int):=by omega
    have hw5:IntKind.i64.wrap ((j:Int)+1)=(j:Int)+1:=IntWalk.i64_in _ (by omega)
    have hw6:((j:Int)+1).toNat=j+1:=by omega
    go_wp2
    have hw7:(1:Int)≤(p:Int):=by omega
    have hw8:(0:Int)≤(j:Int)+1:=by omega
    have hw9:(j:Int)+1≤(s.length:Int):=by omega
    have hw10:(j:Int)≤(j:Int)+1:=by omega
    go_still_tail 17,(by kernel_rfl)
    change wpList _ _ _ _ _ wr.drew
    clear hw1 hw2 hw3 hw4 hw5 hw6 hw7 hw8 hw9 hw10 ad hex hbj
    go_wp2
    go_roundw
    case rel=>exact ⟨j+1,p,_,by omega,by omega,by go_num,HS.out.symm,⟨_,_,rfl,HST.out⟩,HBS.out⟩
    case measure=>simp [intOf];omega
  ·have hpe:o=partsS s:=by rw [hoe];exact partsTo_all (by omega)
   have HPE:=hide hpe
   have HOP:=hide hop
   clear hown hbel hoe hp3 hop hpe
   go_wp2
   go_ret
   rw [←HPE.out,HOP.out]
   exact HO.out.ret HB.out
end Go.Proofs.YtnhegahpfacdgaaGreat

namespace Go.Proofs.YtnhegahpfacdgaaGreat
open Go.RowKit Plain

def LRet (w:World) (e:Nat) (l:List (List UInt8)) (b:Bool) (x:Ending) (w':World):Prop :=
 ∃A n c,x=.returned (.tuple #[.slice A n c,.bool b])∧Ow st w' w.heap.size e A n c l∧Below w.heap.size w w'
theorem LRet.nil {w w':World} {e:Nat} {b:Bool} (h:Below w.heap.size w w'):LRet w e [] b (.returned (.tuple #[.slice none 0 0,.bool b])) w':=⟨none,0,0,rfl,Ow.nil_ _ _ _ _,h⟩

set_option maxHeartbeats 800000 in
theorem RSplit_one (w:World):Calls Tryz.prog 55 #[st [47]] w (LRet w 9 [] true):=by
 show Calls _ _ #[.string ⟨#[47]⟩] _ _
 go_enter Tryz.func55,Tryz.ntmps55
 go_wp2
 go_ret2
 exact LRet.nil (below_self w)

set_option maxHeartbeats 800000 in
theorem RSplit_no {s:List UInt8} (w:World) (h1:s≠[47]) (h:headB s=false):Calls Tryz.prog 55 #[st s] w (LRet w 9 [] false):=by
 show Calls _ _ #[.string ⟨s.toArray⟩] _ _
 have hb:(s==[47])=false:=by simpa using h1
 cases s with
 | nil =>
  clear h h1
  go_enter Tryz.func55,Tryz.ntmps55
  go_wp2
  go_ret2
  exact LRet.nil (below_self w)
 | cons c r =>
  have hc:c≠47:=by simpa [headB] using h
  have hj:0 < ByteArray.size ⟨(c::r).toArray⟩:=by simp [ByteArray.size]
  have hbj:(⟨(c::r).toArray⟩:ByteArray)[0]'hj=c:=rfl
  have htest:((c.toNat:Int) != 47)=true:=by
   simp only [bne_iff_ne,ne_eq]
   intro e
   apply hc
   apply UInt8.toNat_inj.1
   have:c.toNat=47:=by omega
   rw [this]
   rfl
  clear h h1 hc
  go_enter Tryz.func55,Tryz.ntmps55
  go_wp2
  go_ret2
  exact LRet.nil (below_self w)

theorem headB_get {s:List UInt8} (h:headB s=true):∃hj:0 < ByteArray.size ⟨s.toArray⟩,(⟨s.toArray⟩:ByteArray)[0]'hj=47:=by
 cases s with
 | nil=>simp [headB] at h
 | cons c r =>
  have hc:c=47:=by simpa [headB] using h
  exact ⟨by simp [ByteArray.size],hc⟩
theorem lall_take_succ {l:List (List UInt8)} {p:List UInt8→Bool} {k:Nat} (h:k < l.length):(l.take (k+1)).all p=((l.take k).all p&&p l[k]):=by
 rw [List.take_succ_eq_append_getElem h,List.all_append]
 simp
theorem lall_false {l:List (List UInt8)} {p:List UInt8→Bool} {k:Nat} (h:k < l.length) (hp:p l[k]=false):l.all p=false:=by
 rw [List.all_eq_false]
 exact ⟨l[k],List.getElem_mem h,by simp [hp]⟩

def orNil (b:Bool) (l:List (List UInt8)):List (List UInt8):=if b=true then l else []

set_option maxHeartbeats 1600000 in
theorem RSplit_in {s:List UInt8} (w:World) (hm:s.length≤1100000) (h1:s≠[47]) (h:headB s=true) :
  Calls Tryz.prog 55 #[st s] w (LRet w 9 (orNil ((partsS s).all nameB) (partsS s)) ((partsS s).all nameB)):=by
 show Calls _ _ #[.string ⟨s.toArray⟩] _ _
 obtain ⟨r,hr⟩:∃r,(partsS s).all nameB=r:=⟨_,rfl⟩
 rw [hr]
 have HR:=hide hr
 have hb:(s==[47])=false:=by simpa using h1
 obtain ⟨hj,hbj⟩:=headB_get h
 have hl0:0 < s.length:=by cases s with|nil=>simp [headB] at h|cons c r=>simp
 have hl1:((s.length:Int)==0)=false:=by rw [beq_eq_false_iff_ne];omega
 obtain ⟨hpl1,hpl2⟩:=partsS_len s
 have HPL:=hide hpl2
 clear hr h1 h hpl2
 have HJ1:=hide hpl1
 clear hpl1
 go_enter Tryz.func55,Tryz.ntmps55
 go_wp2_with fail
 have hpl1:=HJ1.out
 refine (Rparts_any _ hm).mono ?_
 rintro e w1 ⟨A1,c1,rfl,hown,hbel⟩
 obtain ⟨P,hP⟩:∃P,partsS s=P:=⟨_,rfl⟩
 rw [hP] at hown hpl1
 have HO:=hide hown
 have HB:=hide hbel
 have HP:=hide hP
 rw [hP]
 clear hown hbel hP hb hbj hl1
 go_wp2_with fail
 go_loop [5] (fun i=>∃k:Nat,k≤P.length∧i=.int .i64 k∧((P.take k).all nameB)=true) (fun i=>P.length - (intOf i).toNat)
 case atStart=>exact ⟨0,Nat.zero_le _,rfl,rfl⟩
 case round =>
  obtain ⟨k,hk,rfl,hall⟩:=hrel
  have HALL:=hide hall
  clear hall
  by_cases hlt:k < P.length
  ·obtain ⟨g,rfl,hg,hgl,hcg,hfz⟩:=HO.out.at_ (by omega)
   obtain ⟨x,hx⟩:∃x,x=P[k]:=⟨_,rfl⟩
   have hcell:=hcg k x (by rw [hx];exact List.getElem?_eq_getElem hlt)
   have hxl:x.length≤s.length:=HPL.out x (by rw [HP.out,hx];exact List.getElem_mem hlt)
   have HX:=hide hx
   clear hcg hfz hx
   cases hb2:nameB x with
   | true =>
    have HB2:=hide hb2
    clear hb2
    unfold st at hcell
    go_wp2_with fail
    refine (RNRight_b HB2.out _ (by omega)).mono ?_
    rintro e w' ⟨rfl,rfl⟩
    go_wp2_with fail
    go_round
    case rel=>exact ⟨k+1,by omega,by go_num,by rw [lall_take_succ hlt,HALL.out,←HX.out,HB2.out];rfl⟩
    case measure=>simp [intOf];omega
   | false =>
    have hrf:r=false:=by rw [←HR.out,HP.out];exact lall_false hlt (by rw [←HX.out];exact hb2)
    have HRF:=hide hrf
    have HB2:=hide hb2
    clear hb2 hrf
    unfold st at hcell
    go_wp2_with fail
    refine (RNRight_b HB2.out _ (by omega)).mono ?_
    rintro e w' ⟨rfl,rfl⟩
    go_wp2_with fail
    go_ret2
    rw [HRF.out]
    exact LRet.nil HB.out
  ·have hrt:r=true:=by
    rw [←HR.out,HP.out]
    have:=HALL.out
    rwa [List.take_of_length_le (by omega)] at this
   have HRT:=hide hrt
   clear hrt
   go_wp2
   go_ret2
   have ho:=HO.out
   rw [HRT.out]
   exact ⟨_,_,_,rfl,by rw [show orNil true (partsS s)=P from HP.out];exact ho,HB.out⟩

theorem RSplit_any {s:List UInt8} (w:World) (hm:s.length≤1100000):Calls Tryz.prog 55 #[st s] w (LRet w 9 (splitS s) (splitB s)):=by
 by_cases h1:s=[47]
 ·subst h1
  rw [show splitS [47]=[] from rfl,show splitB [47]=true from rfl]
  exact RSplit_one w
 cases h:headB s with
 | false =>
  rw [show splitS s=[] from by simp [splitS,h1,h],show splitB s=false from by simp [splitB,h1,h]]
  exact RSplit_no w h1 h
 | true =>
  rw [show splitS s=orNil ((partsS s).all nameB) (partsS s) from by unfold splitS;rw [if_neg h1,h];rfl,show splitB s=(partsS s).all nameB from by unfold splitB;rw [h,show (s==[47])=false from by simpa using h1];rfl]
  exact RSplit_in w hm h1 h
end Go.Proofs.YtnhegahpfacdgaaGreat

namespace Go.Proofs.YtnhegahpfacdgaaGreat
open Go.RowKit Plain

def partsF (r:List UInt8):List (List UInt8):=r.foldl stepP [[]]
theorem stepP_pre (a b:List (List UInt8)) (c:UInt8) (hb:b≠[]):stepP (a++b) c=a++stepP b c:=by
 have h1:0 < b.length:=List.length_pos_iff.2 hb
 unfold stepP
 split
 ·rw [List.append_assoc]
 ·have e1:(a++b).length - 1=a.length+(b.length - 1):=by rw [List.length_append];omega
  rw [e1,List.set_append_right _ _ (by omega),Nat.add_sub_cancel_left]
  congr 2
  simp only [List.getD]
  rw [List.getElem?_append_right (by omega),Nat.add_sub_cancel_left]
theorem fold_pre (q:List UInt8):∀(a b:List (List UInt8)),b≠[]→q.foldl stepP (a++b)=a++q.foldl stepP b:=by
 induction q with
 | nil=>intro a b _;rfl
 | cons c r ih =>
  intro a b hb
  rw [List.foldl_cons,List.foldl_cons,stepP_pre a b c hb]
  refine ih a _ ?_
  intro e
  have:=stepP_length b c
  rw [e] at this
  have h1:0 < b.length:=List.length_pos_iff.2 hb
  split at this <;> simp at this
  omega
theorem partsF_one {p:List UInt8} (h:∀c∈p,c≠47):partsF p=[p]:=fold_noslash p h [] []
theorem partsF_more {p q:List UInt8} (h:∀c∈p,c≠47):partsF (p++47::q)=p::partsF q:=by
 have e:=fold_noslash p h [] []
 simp only [List.nil_append] at e
 unfold partsF
 rw [List.foldl_append,e,List.foldl_cons]
 show q.foldl stepP ([p]++[[]])=_
 rw [fold_pre q [p] [[]] (by simp)]
 rfl
theorem cut_at (r:List UInt8):(∀c∈r,c≠47)∨∃p q,(∀c∈p,c≠47)∧r=p++47::q:=by
 induction r with
 | nil=>exact .inl (by simp)
 | cons x r ih =>
  by_cases hx:x=47
  ·exact .inr ⟨[],r,by simp,by rw [hx];rfl⟩
  ·rcases ih with h|⟨p,q,h,rfl⟩
   ·refine .inl fun c hc=>?_
    rcases List.mem_cons.1 hc with e|e
    ·rw [e];exact hx
    ·exact h c e
   ·refine .inr ⟨x::p,q,fun c hc=>?_,rfl⟩
    rcases List.mem_cons.1 hc with e|e
    ·rw [e];exact hx
    ·exact h c e
def moreL (b:Bool) (p q:List UInt8):List (List UInt8):=if b then p::partsF q else [p]
def moreN (b:Bool) (p q:List UInt8):Nat:=if b then p.length+q.length+1 else p.length
theorem Cut_any (r:List UInt8) (hr:r.length≤140737488355328):∃p q b,(∀w:World,Calls Tryz.prog 100 #[.string ⟨r.toArray⟩,.string ⟨#[47]⟩] w (CutRet w p q b))∧partsF r=moreL b p q∧r.length=moreN b p q:=by
 rcases cut_at r with h|⟨p,q,h,rfl⟩
 ·exact ⟨r,[],false,fun w=>Cut_no h w,partsF_one h,rfl⟩
 ·refine ⟨p,q,true,fun w=>Cut_yes h w hr,partsF_more h,?_⟩
  show _=p.length+q.length+1
  rw [List.length_append,List.length_cons]
  omega
theorem head_cut {s:List UInt8}:(headB s=true∧∃r,s=47::r)∨(headB s=false∧Lib.hasPrefix s [47]=false∧Lib.trimPrefix s [47]=s):=by
 cases s with
 | nil=>exact .inr ⟨rfl,rfl,rfl⟩
 | cons c r =>
  by_cases hc:c=47
  ·subst hc;exact .inl ⟨rfl,r,rfl⟩
  ·refine .inr ?_
   have h1:headB (c::r)=false:=by simp [headB,hc]
   have h2:Lib.hasPrefix (c::r) [47]=false:=by
    have:(47==c)=false:=by simpa using fun e=>hc (Eq.symm e)
    simp [Lib.hasPrefix,List.isPrefixOf,this]
   exact ⟨h1,h2,by unfold Lib.trimPrefix;rw [h2];rfl⟩
theorem trim_cons (r:List UInt8):Lib.trimPrefix (47::r) [47]=r∧Lib.hasPrefix (47::r) [47]=true:=by
 have h2:Lib.hasPrefix (47::r) [47]=true:=by simp [Lib.hasPrefix,List.isPrefixOf]
 exact ⟨by unfold Lib.trimPrefix;rw [h2];rfl,h2⟩
def namesPt (s:List UInt8):List (List UInt8):=if headB s=true then (leftS (partsS s)).getD [] else []
theorem NRet.yes {s:List UInt8} {w w':World} {o:List (List UInt8)} {A:Option Addr} {n c:Nat} (hh:headB s=true) (hl:leftS (partsS s)=some o) (hown:Ow st w' w.heap.size 9 A n c o) (hb:Below w.heap.size w w') :
  LRet w 9 (namesPt s) (cleanB s) (.returned (.tuple #[.slice A n c,.bool true])) w':=by
 have e1:namesPt s=o:=by simp [namesPt,hh,hl]
 have e2:cleanB s=true:=by simp [cleanB,hh,hl]
 rw [e1,e2]
 exact ⟨A,n,c,rfl,hown,hb⟩
theorem NRet.no {s:List UInt8} {w w':World} (hc:cleanB s=false) (hb:Below w.heap.size w w'):LRet w 9 (namesPt s) (cleanB s) (.returned (.tuple #[.slice none 0 0,.bool false])) w':=by
 have e1:namesPt s=[]:=by
  unfold cleanB at hc
  unfold namesPt
  by_cases hh:headB s=true
  ·rw [if_pos hh]
   rw [hh] at hc
   cases hl:leftS (partsS s) with
   | none=>rfl
   | some o=>rw [hl] at hc;cases hc
  ·rw [if_neg hh]
 rw [e1,hc]
 exact LRet.nil hb
def NInv (s:List UInt8) (w w':World) (r:List UInt8) (o:List (List UInt8)) (A:Option Addr) (n c:Nat):Prop :=
 Ow st w' w.heap.size 9 A n c o∧Below w.heap.size w w'∧(partsF r).foldl stepC (some o)=leftS (partsS s)∧o.length+r.length≤s.length
def strLen:Value→Nat|.string b=>b.size|_=>0
theorem fold_none (l:List (List UInt8)):l.foldl stepC none=none:=by
 induction l with
 | nil=>rfl
 | cons y r ih=>rw [List.foldl_cons];exact ih
theorem more_stop {b:Bool} {p q:List UInt8} {o:List (List UInt8)} (h:stepC (some o) p=none):(moreL b p q).foldl stepC (some o)=none:=by
 unfold moreL
 split
 ·rw [List.foldl_cons,h,fold_none]
 ·rw [List.foldl_cons,h];rfl
theorem wp_scope_once {P : Program} {a : Act} {w : World} {Q : Exit → Act → World → Prop} {c rest : Code} (l : Nat) (J : Act → World → Prop) (μ : Act → World → Nat) (hf : findLabel c l = some (Code.skip.seq rest))
  (pass:∀a w,J a w→rest.wp P (Exit.jump l (fun a' w'=>J a' w'∧μ a' w' < μ a w) Q) a w)
  (first:(∀a w,J a w→rest.wp P (Exit.jump l J Q) a w)→c.wp P (Exit.jump l J Q) a w):(Code.scope c).wp P Q a w:=by
 refine wp_scope_jumps l J μ hf (first fun a w h=>Code.wp_mono (fun e a' w' hq=>?_) (pass a w h)) (fun a w h=>wp_seq (wp_skip (pass a w h)))
 cases e with
 | goto l'=>exact ⟨hq.1,hq.2.1⟩
 | normal=>exact hq
 | exit id=>exact hq
 | ret=>exact hq
 | panic ch=>exact hq
 | outgrown=>exact hq

set_option maxHeartbeats 4000000 in
set_option maxRecDepth 100000 in
theorem names_any {s:List UInt8} (w:World) (hs:s.length≤1100000) :
  Calls Tryz.prog 81 #[st s] w (LRet w 9 (namesPt s) (cleanB s)):=by
 unfold st
 rcases head_cut (s:=s) with ⟨hh,r0,hr0⟩|⟨hh,hp,ht⟩
 case inr =>
  have hcp:∀w:World,Calls Tryz.prog 99 #[.string ⟨s.toArray⟩,.string ⟨#[47]⟩] w fun e w'=>e=.returned (.tuple #[.string ⟨s.toArray⟩,.bool false])∧w'=w:=by
   intro w
   have h:Calls Tryz.prog 99 #[.string ⟨s.toArray⟩,.string ⟨#[47]⟩] w fun e w'=>e=.returned (.tuple #[.string ⟨(Lib.trimPrefix s [47]).toArray⟩,.bool (Lib.hasPrefix s [47])])∧w'=w:=Tryz.strings_CutPrefix ⟨s.toArray⟩ ⟨#[47]⟩ w
   rwa [ht,hp] at h
  have HCP:=hide hcp
  have hcl:cleanB s=false:=by simp [cleanB,hh]
  have HCL:=hide hcl
  clear hcp hp ht hh hcl
  go_enter Tryz.func81,Tryz.ntmps81
  go_wp2_with fail
  go_step3
  go_wp2_with fail
  refine (HCP.out _).mono ?_
  rintro e w' ⟨rfl,rfl⟩
  go_wp2_with fail
  (first|go_ret2|(simp only [Exit.jump];go_ret2)|(rw [Exit.noGoto_ret];go_ret2))
  exact NRet.no HCL.out (below_self _)
 have hcp:∀w:World,Calls Tryz.prog 99 #[.string ⟨s.toArray⟩,.string ⟨#[47]⟩] w fun e w'=>e=.returned (.tuple #[.string ⟨r0.toArray⟩,.bool true])∧w'=w:=by
  intro w
  have h:Calls Tryz.prog 99 #[.string ⟨s.toArray⟩,.string ⟨#[47]⟩] w fun e w'=>e=.returned (.tuple #[.string ⟨(Lib.trimPrefix s [47]).toArray⟩,.bool (Lib.hasPrefix s [47])])∧w'=w:=Tryz.strings_CutPrefix ⟨s.toArray⟩ ⟨#[47]⟩ w
  rwa [hr0,(trim_cons r0).1,(trim_cons r0).2,←hr0] at h
 have HCP:=hide hcp
 have HH:=hide hh
 have hpf:partsF r0=partsS s:=by rw [hr0];rfl
 have HPF0:=hide hpf
 have hl0:r0.length≤s.length:=by rw [hr0];simp
 have HL0:=hide hl0
 have HS:=hide hs
 clear hcp hh hr0 hpf hl0 hs
 go_enter Tryz.func81,Tryz.ntmps81
 go_wp2_with fail
 refine wp_scope_once 0 (fun a' w'=>∃(r:List UInt8) (o:List (List UInt8)) (A:Option Addr) (n c:Nat) (u0 u1 u2 u3 u5 u7 u8 u9 u10 u11 u12 u13 u14 u15 u16 u17 u18 u19 u20 u21 u22 u23 u24 u25 u26 u27 u28 u29 u30 u31 u32 u33 u34 u35 u36 u37 u38 u39 u40 u41 u42 u43 u44 u45 u46 u47 u48 u49:Value),a'={tmps:=#[u0,u1,u2,u3,.string ⟨r.toArray⟩,u5,.slice A n c,u7,u8,u9,u10,u11,u12,u13,u14,u15,u16,u17,u18,u19,u20,u21,u22,u23,u24,u25,u26,u27,u28,u29,u30,u31,u32,u33,u34,u35,u36,u37,u38,u39,u40,u41,u42,u43,u44,u45,u46,u47,u48,u49],defers:=[]}∧NInv s w w' r o A n c) (fun a' _=>strLen (a'.tmps.getD 4 undef)) rfl ?_ ?_
 case _ =>
  rintro a' w' ⟨r,o,A,n,c,u0,u1,u2,u3,u5,u7,u8,u9,u10,u11,u12,u13,u14,u15,u16,u17,u18,u19,u20,u21,u22,u23,u24,u25,u26,u27,u28,u29,u30,u31,u32,u33,u34,u35,u36,u37,u38,u39,u40,u41,u42,u43,u44,u45,u46,u47,u48,u49,rfl,hown,hbel,hfold,hlen⟩
  have hon:=hown.len
  obtain ⟨p,q,b,hcut,hpf,hlr⟩:=Cut_any r (by have:=HS.out;omega)
  have HCUT:=hide hcut
  have HO:=hide hown
  have HB:=hide hbel
  have HF:=hide hfold
  have HPF:=hide hpf
  have HLR:=hide hlr
  have HLEN:=hide hlen
  have hn:n≤1100000:=by have:=HS.out;omega
  have HON:=hide hon
  clear hcut hown hbel hfold hpf hlr hlen hon
  by_cases hp0:p=[]
  ·subst hp0
   have hst:stepC (some o) []=some o:=by simp [stepC]
   have HST:=hide hst
   clear hst
   go_wp2_with fail
   refine (HCUT.out _).mono ?_
   rintro e w1 ⟨rfl,nd,rfl⟩
   unfold st
   cases b with
   | true =>
    go_wp2_with fail
    go_step3
    refine ⟨rfl,⟨q,o,A,n,c,_,_,_,_,_,_,_,_,_,_,_,_,_,_,_,_,_,_,_,_,_,_,_,_,_,_,_,_,_,_,_,_,_,_,_,_,_,_,_,_,_,_,_,_,_,_,_,_,rfl,(HO.out.drewN nd),(below_drewN HB.out nd),?_,?_⟩,?_⟩
    ·have e:=HF.out
     rw [HPF.out] at e
     simp only [moreL,if_true] at e
     rw [List.foldl_cons,HST.out] at e
     exact e
    ·have h1:=HLEN.out
     have h2:=HLR.out
     simp only [moreN,if_true] at h2
     omega
    ·have h2:=HLR.out
     simp only [moreN,if_true] at h2
     simp only [strLen,ByteArray.size,Array.getD_eq_getD_getElem?]
     simp
     omega
   | false =>
    have hl:leftS (partsS s)=some o:=by
     have e:=HF.out
     rw [HPF.out] at e
     simp only [moreL,Bool.false_eq_true,if_false] at e
     rw [List.foldl_cons,HST.out] at e
     exact e.symm
    have HL:=hide hl
    clear hl
    go_wp2_with fail
    (first|go_ret2|(simp only [Exit.jump];go_ret2)|(rw [Exit.noGoto_ret];go_ret2))
    exact NRet.yes HH.out HL.out (HO.out.drewN nd) (below_drewN HB.out nd)
  by_cases hp1:p=[46]
  ·subst hp1
   have hst:stepC (some o) [46]=some o:=by simp [stepC]
   have HST:=hide hst
   clear hst
   go_wp2_with fail
   refine (HCUT.out _).mono ?_
   rintro e w1 ⟨rfl,nd,rfl⟩
   unfold st
   cases b with
   | true =>
    go_wp2_with fail
    go_step3
    refine ⟨rfl,⟨q,o,A,n,c,_,_,_,_,_,_,_,_,_,_,_,_,_,_,_,_,_,_,_,_,_,_,_,_,_,_,_,_,_,_,_,_,_,_,_,_,_,_,_,_,_,_,_,_,_,_,_,_,rfl,(HO.out.drewN nd),(below_drewN HB.out nd),?_,?_⟩,?_⟩
    ·have e:=HF.out
     rw [HPF.out] at e
     simp only [moreL,if_true] at e
     rw [List.foldl_cons,HST.out] at e
     exact e
    ·have h1:=HLEN.out
     have h2:=HLR.out
     simp only [moreN,if_true] at h2
     omega
    ·have h2:=HLR.out
     simp only [moreN,if_true] at h2
     simp only [strLen,ByteArray.size,Array.getD_eq_getD_getElem?]
     simp
     omega
   | false =>
    have hl:leftS (partsS s)=some o:=by
     have e:=HF.out
     rw [HPF.out] at e
     simp only [moreL,Bool.false_eq_true,if_false] at e
     rw [List.foldl_cons,HST.out] at e
     exact e.symm
    have HL:=hide hl
    clear hl
    go_wp2_with fail
    (first|go_ret2|(simp only [Exit.jump];go_ret2)|(rw [Exit.noGoto_ret];go_ret2))
    exact NRet.yes HH.out HL.out (HO.out.drewN nd) (below_drewN HB.out nd)
  have d0:(p==[])=false:=by simpa using hp0
  have d1:(p==[46])=false:=by simpa using hp1
  have hx0:¬(p=[]∨p=[46]):=by rintro (h|h) <;> contradiction
  by_cases hp2:p=[46,46]
  ·subst hp2
   by_cases hn0:n=0
   ·subst hn0
    have ho0:o=[]:=List.eq_nil_of_length_eq_zero HON.out
    have hcl:cleanB s=false:=by
     have e:=HF.out
     rw [HPF.out,more_stop (by rw [ho0];rfl)] at e
     unfold cleanB
     rw [←e]
     simp
    have HCL:=hide hcl
    clear ho0 hcl hx0 d0 d1 hp0 hp1
    go_wp2_with fail
    refine (HCUT.out _).mono ?_
    rintro e w1 ⟨rfl,nd,rfl⟩
    unfold st
    go_wp2_with fail
    refine (NRight_b (l:=[46,46]) (b:=false) (by decide +kernel) _ (by decide)).mono ?_
    rintro e w2 ⟨rfl,hbel⟩
    have HB2:=hide (below_step (below_drewN HB.out nd) hbel)
    clear hbel
    go_wp2_with fail
    (first|go_ret2|(simp only [Exit.jump];go_ret2)|(rw [Exit.noGoto_ret];go_ret2))
    exact NRet.no HCL.out HB2.out
   ·obtain ⟨g2,rfl,hg2,hgl2,_,_⟩:=HO.out.at_ (by omega)
    have hcp:=HO.out.cap
    have hst:stepC (some o) [46,46]=some o.dropLast:=by
     have hne:o≠[]:=by intro e;have:=HON.out;rw [e] at this;simp at this;omega
     simp [stepC,hne]
    have hcut:=HO.out.cut (i:=n - 1) (by omega) (by simp)
    have hdl:o.take (n - 1)=o.dropLast:=by rw [List.dropLast_eq_take,HON.out]
    rw [hdl] at hcut
    have HST:=hide hst
    have HC:=hide hcut
    have HDL:=hide (show o.dropLast.length=n - 1 by rw [List.length_dropLast,HON.out])
    have hp1':1≤n:=by omega
    have hn1:0 < n:=by omega
    clear hst hcut hdl hx0 d0 d1 hp0 hp1 hn0
    go_wp2_with fail
    refine (HCUT.out _).mono ?_
    rintro e w1 ⟨rfl,nd,rfl⟩
    unfold st
    cases b with
    | true =>
     go_wp2_with fail
     go_step3
     refine ⟨rfl,⟨q,o.dropLast,_,(n - 1),c,_,_,_,_,_,_,_,_,_,_,_,_,_,_,_,_,_,_,_,_,_,_,_,_,_,_,_,_,_,_,_,_,_,_,_,_,_,_,_,_,_,_,_,_,_,_,_,_,rfl,(HC.out.drewN nd),(below_drewN HB.out nd),?_,?_⟩,?_⟩
     ·have e:=HF.out
      rw [HPF.out] at e
      simp only [moreL,if_true] at e
      rw [List.foldl_cons,HST.out] at e
      exact e
     ·have h1:=HLEN.out
      have h2:=HLR.out
      simp only [moreN,if_true] at h2
      (have h3:=HDL.out;have h4:=HON.out;omega)
     ·have h2:=HLR.out
      simp only [moreN,if_true] at h2
      simp only [strLen,ByteArray.size,Array.getD_eq_getD_getElem?]
      simp
      omega
    | false =>
     have hl:leftS (partsS s)=some o.dropLast:=by
      have e:=HF.out
      rw [HPF.out] at e
      simp only [moreL,Bool.false_eq_true,if_false] at e
      rw [List.foldl_cons,HST.out] at e
      exact e.symm
     have HL:=hide hl
     clear hl
     go_wp2_with fail
     (first|go_ret2|(simp only [Exit.jump];go_ret2)|(rw [Exit.noGoto_ret];go_ret2))
     exact NRet.yes HH.out HL.out (HC.out.drewN nd) (below_drewN HB.out nd)
  have d2:(p==[46,46])=false:=by simpa using hp2
  have hpl:p.length≤140737488355328:=by
   have h1:=HLEN.out
   have h2:=HLR.out
   have h3:=HS.out
   unfold moreN at h2
   split at h2 <;> omega
  cases hb2:nameB p with
  | false =>
   have hst:stepC (some o) p=none:=by simp only [stepC,if_neg hx0,if_neg hp2,hb2];rfl
   have hcl:cleanB s=false:=by
    have e:=HF.out
    rw [HPF.out,more_stop hst] at e
    unfold cleanB
    rw [←e]
    simp
   have HCL:=hide hcl
   have HB2:=hide hb2
   clear hst hcl hb2 hx0 hp0 hp1 hp2
   go_wp2_with fail
   refine (HCUT.out _).mono ?_
   rintro e w1 ⟨rfl,nd,rfl⟩
   unfold st
   go_wp2_with fail
   refine (NRight_b HB2.out _ hpl).mono ?_
   rintro e w2 ⟨rfl,hbel⟩
   have HB3:=hide (below_step (below_drewN HB.out nd) hbel)
   clear hbel
   go_wp2_with fail
   (first|go_ret2|(simp only [Exit.jump];go_ret2)|(rw [Exit.noGoto_ret];go_ret2))
   exact NRet.no HCL.out HB3.out
  | true =>
   have hst:stepC (some o) p=some (o++[p]):=by simp only [stepC,if_neg hx0,if_neg hp2,hb2,if_true]
   have HST:=hide hst
   have HB2:=hide hb2
   clear hst hb2 hx0 hp0 hp1 hp2
   go_wp2_with fail
   refine (HCUT.out _).mono ?_
   rintro e w1 ⟨rfl,nd,rfl⟩
   unfold st
   go_wp2_with fail
   refine (NRight_b HB2.out _ hpl).mono ?_
   rintro e w2 ⟨rfl,hbel⟩
   have HB3:=hide (below_step (below_drewN HB.out nd) hbel)
   have HO3:=hide ((HO.out.drewN nd).below (hbel.mono (by simp)))
   clear hbel
   cases b with
   | true =>
    go_wp2_with (at_builtin;refine wpList_append_Rd _ rfl (.tmp 44) (.tmp 46) 30 rfl w.heap.size 9 _ 16 Tryz.underlying30 info_st rfl st_one _ n _ o rfl (HO3.out.alloc _) _ _ 1 1 _ rfl (Rd.one _ _ (show Value.string ⟨p.toArray⟩=st p from rfl)) (n+1) rfl (by omega) (by omega) (by have:=HB3.out.size;simp;omega) ?_;intro A4 c4 w4 hown4 hbel4;have HO4:=hide hown4;have HB4:=hide ((HB3.out.alloc HB3.out.size _).trans hbel4);clear hown4 hbel4)
    go_step3
    refine ⟨rfl,⟨q,(o++[p]),A4,(n+1),c4,_,_,_,_,_,_,_,_,_,_,_,_,_,_,_,_,_,_,_,_,_,_,_,_,_,_,_,_,_,_,_,_,_,_,_,_,_,_,_,_,_,_,_,_,_,_,_,_,rfl,HO4.out,HB4.out,?_,?_⟩,?_⟩
    ·have e:=HF.out
     rw [HPF.out] at e
     simp only [moreL,if_true] at e
     rw [List.foldl_cons,HST.out] at e
     exact e
    ·have h1:=HLEN.out
     have h2:=HLR.out
     simp only [moreN,if_true] at h2
     (rw [List.length_append,List.length_singleton];have:=(nameB_len HB2.out).1;omega)
    ·have h2:=HLR.out
     simp only [moreN,if_true] at h2
     simp only [strLen,ByteArray.size,Array.getD_eq_getD_getElem?]
     simp
     omega
   | false =>
    have hl:leftS (partsS s)=some (o++[p]):=by
     have e:=HF.out
     rw [HPF.out] at e
     simp only [moreL,Bool.false_eq_true,if_false] at e
     rw [List.foldl_cons,HST.out] at e
     exact e.symm
    have HL:=hide hl
    clear hl
    go_wp2_with (at_builtin;refine wpList_append_Rd _ rfl (.tmp 44) (.tmp 46) 30 rfl w.heap.size 9 _ 16 Tryz.underlying30 info_st rfl st_one _ n _ o rfl (HO3.out.alloc _) _ _ 1 1 _ rfl (Rd.one _ _ (show Value.string ⟨p.toArray⟩=st p from rfl)) (n+1) rfl (by omega) (by omega) (by have:=HB3.out.size;simp;omega) ?_;intro A4 c4 w4 hown4 hbel4;have HO4:=hide hown4;have HB4:=hide ((HB3.out.alloc HB3.out.size _).trans hbel4);clear hown4 hbel4)
    (first|go_ret2|(simp only [Exit.jump];go_ret2)|(rw [Exit.noGoto_ret];go_ret2))
    exact NRet.yes HH.out HL.out HO4.out HB4.out
 case _ =>
  intro hpass
  have HPASS:=hide hpass
  clear hpass
  go_wp2_with fail
  refine (HCP.out _).mono ?_
  rintro e w' ⟨rfl,rfl⟩
  go_wp2_with fail
  go_step3
  rename_i hK
  refine hK _ _ (HPASS.out _ _ ⟨r0,[],none,0,0,_,_,_,_,_,_,_,_,_,_,_,_,_,_,_,_,_,_,_,_,_,_,_,_,_,_,_,_,_,_,_,_,_,_,_,_,_,_,_,_,_,_,_,_,_,_,_,_,rfl,Ow.nil_ _ _ _ _,below_self _,?_,?_⟩)
  ·rw [HPF0.out];rfl
  ·have:=HL0.out;simpa using this
end Go.Proofs.YtnhegahpfacdgaaGreat

namespace Go.Proofs.YtnhegahpfacdgaaGreat
open Go.RowKit Plain

def StRet (w:World) (l:List UInt8) (b:Bool) (x:Ending) (w':World):Prop:=x=.returned (.tuple #[st l,.bool b])∧Below w.heap.size w w'
theorem StRet.of {w w':World} {l:List UInt8} {b:Bool} (h:Below w.heap.size w w'):StRet w l b (.returned (.tuple #[.string ⟨l.toArray⟩,.bool b])) w':=⟨rfl,h⟩

end Go.Proofs.YtnhegahpfacdgaaGreat

