import Derived.Test.YtfdbhldnohaopaaGreatVw21
import Derived.Test.YtfdbhldnohaopaaGreatVw10
import Derived.BigQuiet
import Derived.Deep.QuietTactic
import Derived.Test.YtfdbhldnohaopaaGreatVw20
import Derived.StillTailTactics
import Derived.IntWalk

namespace Go.Proofs.YtfdbhldnohaopaaGreat.Plain
theorem snoc_ind {α:Type} {P:List α→Prop} (h0:P []) (h1:∀l x,P l→P (l++[x])):∀l,P l:=by
  intro l
  rw [←List.reverse_reverse l]
  generalize l.reverse=r
  induction r with
  | nil=>exact h0
  | cons x r ih=>rw [List.reverse_cons];exact h1 _ _ ih
theorem joinS_head (l:List (List UInt8)):∃b,joinS l=47::b:=by
  induction l using snoc_ind with
  | h0=>exact ⟨[],rfl⟩
  | h1 l x ih =>
    obtain ⟨b,hb⟩:=ih
    rw [joinS_snoc,hb]
    split
    · exact ⟨b++x,rfl⟩
    · exact ⟨b++[47]++x,rfl⟩
theorem fold_noslash (x:List UInt8) (hx:∀c∈x,c≠47):∀(o:List (List UInt8)) (y:List UInt8),x.foldl stepP (o++[y])=o++[y++x]:=by
  induction x with
  | nil=>intro o y;simp
  | cons c r ih =>
    intro o y
    rw [List.foldl_cons]
    have hc:c≠47:=hx c List.mem_cons_self
    have hs:stepP (o++[y]) c=o++[y++[c]]:=by
      unfold stepP
      rw [if_neg hc]
      have hl:(o++[y]).length - 1=o.length:=by simp
      rw [hl,List.set_append_right _ _ (Nat.le_refl _),Nat.sub_self,List.set_cons_zero]
      have hg:(o++[y]).getD o.length []=y:=by simp [List.getD]
      rw [hg]
    rw [hs,ih (fun c hc=>hx c (List.mem_cons_of_mem _ hc))]
    simp
theorem parts_join {l:List (List UInt8)} (h:∀x∈l,∀c∈x,c≠47):partsS (joinS l)=if l=[] then [[]] else l:=by
  induction l using snoc_ind with
  | h0=>rfl
  | h1 l x ih =>
    have ih:=ih (fun y hy=>h y (List.mem_append_left _ hy))
    have hx:=h x (List.mem_append_right _ (List.mem_singleton.2 rfl))
    rw [if_neg (by simp),joinS_snoc]
    by_cases hl:l=[]
    · subst hl
      simp only [List.length_nil,if_true]
      show ((x.foldl stepP ([]++[[]])):List (List UInt8))=[]++[x]
      rw [fold_noslash x hx]
      rfl
    · have hll:¬l.length=0:=by intro e;exact hl (List.eq_nil_of_length_eq_zero e)
      rw [if_neg hll]
      rw [if_neg hl] at ih
      obtain ⟨b,hb⟩:=joinS_head l
      rw [hb] at ih ⊢
      have ih2:b.foldl stepP [[]]=l:=ih
      show ((b++[47]++x).foldl stepP [[]])=l++[x]
      rw [List.foldl_append,List.foldl_append,ih2]
      have h47:List.foldl stepP l [47]=l++[[]]:=rfl
      rw [h47,fold_noslash x hx]
      rfl
theorem join_parts {s:List UInt8} (h:headB s=true):joinS (partsS s)=s:=by
  obtain ⟨r,rfl⟩:∃r,s=47::r:=by
    cases s with
    | nil=>simp [headB] at h
    | cons c r => exact ⟨r, by have : c = 47 := by simpa [headB] using h
                               rw [this]⟩
  show joinS (r.foldl stepP [[]])=47::r
  suffices hh:(r.foldl stepP [[]])≠[]∧joinS (r.foldl stepP [[]])=47::r from hh.2
  clear h
  induction r using snoc_ind with
  | h0=>exact ⟨by simp,rfl⟩
  | h1 r c ih =>
    obtain ⟨ih1,ih2⟩:=ih
    rw [List.foldl_append,List.foldl_cons,List.foldl_nil]
    generalize r.foldl stepP [[]]=P at ih1 ih2 ⊢
    by_cases hc:c=47
    · subst hc
      have hs:stepP P 47=P++[[]]:=rfl
      rw [hs]
      refine ⟨by simp,?_⟩
      rw [joinS_snoc,if_neg (by intro e;exact ih1 (List.eq_nil_of_length_eq_zero e)),ih2]
      simp
    · obtain ⟨Q,y,rfl⟩:∃Q y,P=Q++[y]:=⟨P.dropLast,P.getLast ih1,(List.dropLast_concat_getLast ih1).symm⟩
      have hs:stepP (Q++[y]) c=Q++[y++[c]]:=by
        have:=fold_noslash [c] (by intro d hd;rw [List.mem_singleton] at hd;rw [hd];exact hc) Q y
        simpa using this
      rw [hs]
      refine ⟨by simp,?_⟩
      rw [joinS_snoc,←List.append_assoc,←joinS_snoc,ih2]
      rfl
theorem nameB_noslash {x:List UInt8} (h:nameB x=true):∀c∈x,c≠47:=by
  intro c hc e
  simp only [nameB,Bool.and_eq_true,List.all_eq_true] at h
  have:=h.2 c hc
  subst e
  simp [letB] at this
theorem nameB_not {x:List UInt8} (h:nameB x=true):¬(x=[]∨x=[46])∧¬x=[46,46]:=by
  refine ⟨?_,?_⟩
  · rintro (rfl|rfl) <;> simp [nameB] at h
  · rintro rfl;simp [nameB] at h
theorem left_names {l:List (List UInt8)} (h:l.all nameB=true):leftS l=some l:=by
  induction l using snoc_ind with
  | h0=>rfl
  | h1 l x ih =>
    rw [List.all_append,Bool.and_eq_true] at h
    have hx:nameB x=true:=by simpa using h.2
    rw [leftS_snoc,ih h.1]
    obtain ⟨n1,n2⟩:=nameB_not hx
    simp only [stepC,if_neg n1,if_neg n2,hx,if_true]
theorem left_all {l o:List (List UInt8)} (h:leftS l=some o):o.all nameB=true:=by
  induction l using snoc_ind generalizing o with
  | h0=>cases h;rfl
  | h1 l x ih =>
    rw [leftS_snoc] at h
    cases hl:leftS l with
    | none=>rw [hl] at h;cases h
    | some o1 =>
      rw [hl] at h
      have i1:=ih hl
      unfold stepC at h
      simp only at h
      split at h
      · cases h;exact i1
      · split at h
        · split at h
          · cases h
          · cases h
            rw [List.all_eq_true] at i1 ⊢
            exact fun y hy=>i1 y (List.dropLast_subset _ hy)
        · split at h
          · rename_i hx
            cases h
            rw [List.all_append,i1]
            simpa using hx
          · cases h
theorem split_join {o:List (List UInt8)} (h:o.all nameB=true):splitB (joinS o)=true∧splitS (joinS o)=o:=by
  have hn:∀x∈o,∀c∈x,c≠47:=fun x hx=>nameB_noslash (List.all_eq_true.1 h x hx)
  have hp:=parts_join hn
  by_cases ho:o=[]
  · subst ho;exact ⟨rfl,rfl⟩
  · rw [if_neg ho] at hp
    obtain ⟨b,hb⟩:=joinS_head o
    have hh:headB (joinS o)=true:=by rw [hb];rfl
    have hne:joinS o≠[47]:=by
      intro e
      rw [e] at hp
      have:partsS [47]=[[]]:=rfl
      rw [this] at hp
      rw [←hp] at h
      simp [nameB] at h
    refine ⟨?_,?_⟩
    · unfold splitB
      rw [hh,hp,h]
      simp
    · unfold splitS
      rw [if_neg hne,hh,hp,h]
      rfl
theorem clean_join {o:List (List UInt8)} (h:o.all nameB=true):cleanB (joinS o)=true∧cleanS (joinS o)=joinS o:=by
  have hn:∀x∈o,∀c∈x,c≠47:=fun x hx=>nameB_noslash (List.all_eq_true.1 h x hx)
  have hp:=parts_join hn
  obtain ⟨b,hb⟩:=joinS_head o
  have hh:headB (joinS o)=true:=by rw [hb];rfl
  have hl:leftS (partsS (joinS o))=some o:=by
    rw [hp]
    by_cases ho:o=[]
    · subst ho;rfl
    · rw [if_neg ho];exact left_names h
  refine ⟨?_,?_⟩
  · unfold cleanB;rw [hh,hl];rfl
  · unfold cleanS;rw [if_pos hh,hl]
theorem split_back {s:List UInt8} (h:splitB s=true):joinS (splitS s)=s∧cleanB s=true∧cleanS s=s:=by
  have key:(splitS s).all nameB=true∧joinS (splitS s)=s:=by
    by_cases h1:s=[47]
    · subst h1;exact ⟨rfl,rfl⟩
    · have h2:(headB s&&(partsS s).all nameB)=true:=by
        unfold splitB at h
        rw [Bool.or_eq_true,beq_iff_eq] at h
        rcases h with h|h
        · exact absurd h h1
        · exact h
      unfold splitS
      rw [if_neg h1,if_pos h2]
      rw [Bool.and_eq_true] at h2
      exact ⟨h2.2,join_parts h2.1⟩
  obtain ⟨k1,k2⟩:=key
  have:=clean_join k1
  rw [k2] at this
  exact ⟨k2,this⟩
end Go.Proofs.YtfdbhldnohaopaaGreat.Plain

namespace Go.Proofs.YtfdbhldnohaopaaGreat
open Go.RowKit Plain

def LRet (w:World) (e:Nat) (l:List (List UInt8)) (b:Bool) (x:Ending) (w':World):Prop :=
 ∃A n c,x=.returned (.tuple #[.slice A n c,.bool b])∧Ow st w' w.heap.size e A n c l∧Below w.heap.size w w'
theorem LRet.nil {w w':World} {e:Nat} {b:Bool} (h:Below w.heap.size w w'):LRet w e [] b (.returned (.tuple #[.slice none 0 0,.bool b])) w':=⟨none,0,0,rfl,Ow.nil_ _ _ _ _,h⟩

end Go.Proofs.YtfdbhldnohaopaaGreat

