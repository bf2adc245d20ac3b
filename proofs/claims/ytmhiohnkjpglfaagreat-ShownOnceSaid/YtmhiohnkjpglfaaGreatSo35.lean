import Derived.Test.YtmhiohnkjpglfaaGreatSo34
import Derived.Test.YtmhiohnkjpglfaaGreatSo21
import Derived.Test.YtmhiohnkjpglfaaGreatSo33
import Derived.Test.YtmhiohnkjpglfaaGreatSo18
import Derived.Test.YtmhiohnkjpglfaaGreatSo22

namespace Go.Proofs.YtmhiohnkjpglfaaGreat
open Go.RowKit Plain

theorem at_snoc (up:List NodV) (ls:List (List NodV)) (l:List (List UInt8)) (x:List UInt8):atM up ls (l++[x])=goM up ls (atM up ls l) x:=by
 unfold atM
 rw [List.foldl_append]
 rfl
def atX (up:List NodV) (ls:List (List NodV)) (n:List (List UInt8)):ShnV:=(pathC n,(atM up ls n).1,(atM up ls n).2.2)
theorem tour_at (up : List NodV) (ls : List (List NodV)) : ∀ k, (∀ s ∈ (tourS up ls k).1, (atM up ls s.2).1 = 1 ∧ (atM up ls s.2).2.1 = s.1) ∧ (tourS up ls k).2 = (tourN up ls k).map (atX up ls)
 | 0=>by
  refine ⟨fun s hs=>?_,rfl⟩
  simp only [tourS,List.mem_singleton] at hs
  rw [hs]
  exact ⟨rfl,rfl⟩
 | k+1=>by
  obtain ⟨i1,i2⟩:=tour_at up ls k
  cases hs:(tourS up ls k).1[k]? with
  | none =>
   rw [(tourN_none hs).1,(tourN_none hs).2]
   exact ⟨i1,i2⟩
  | some s =>
   obtain ⟨a1,a2⟩:=i1 s (List.mem_of_getElem? hs)
   have hstep:∀x,atM up ls (s.2++[x])=stepV up ls s.1 x:=fun x=>by
    rw [at_snoc]
    unfold goM
    rw [if_pos a1,a2]
   rw [tour_some hs,tourN_some hs]
   refine ⟨fun t ht=>?_,?_⟩
   ·rcases List.mem_append.1 ht with h|h
    ·exact i1 t h
    ·unfold nextS at h
     obtain ⟨x,hx,rfl⟩:=List.mem_map.1 h
     have hd:=(List.mem_filter.1 hx).2
     show (atM up ls (s.2++[x])).1=1∧(atM up ls (s.2++[x])).2.1=(stepV up ls s.1 x).2.1
     rw [hstep]
     exact ⟨by simpa [dirX] using hd,rfl⟩
   ·show (tourS up ls k).2++toldS up ls s=_
    rw [List.map_append,i2]
    congr 1
    unfold toldS toldN
    rw [List.map_map]
    refine List.map_congr_left fun x _=>?_
    show (pathC (s.2++[x]),(stepV up ls s.1 x).1,(stepV up ls s.1 x).2.2)=(pathC (s.2++[x]),(atM up ls (s.2++[x])).1,(atM up ls (s.2++[x])).2.2)
    rw [hstep]
theorem tour_up (up : List NodV) (ls : List (List NodV)) : ∀ (k i : Nat) (n : List (List UInt8)), (tourN up ls k)[i]? = some n → ∃ p x, n = p ++ [x] ∧ (p = [] ∨ ∃ j : Nat, j < i ∧ (tourN up ls k)[j]? = some p)
 | 0,i,n,h=>by simp [tourN] at h
 | k+1,i,n,h=>by
  cases hs:(tourS up ls k).1[k]? with
  | none =>
   rw [(tourN_none hs).1] at h ⊢
   exact tour_up up ls k i n h
  | some s =>
   rw [tourN_some hs] at h ⊢
   by_cases hi:i < (tourN up ls k).length
   ·rw [List.getElem?_append_left hi] at h
    obtain ⟨p,x,e,hp⟩:=tour_up up ls k i n h
    refine ⟨p,x,e,hp.imp id fun ⟨j,hj,hp⟩=>⟨j,hj,?_⟩⟩
    rw [List.getElem?_append_left (by omega)]
    exact hp
   ·rw [List.getElem?_append_right (by omega)] at h
    have hm:=List.mem_of_getElem? h
    obtain ⟨x,-,rfl⟩:=List.mem_map.1 hm
    refine ⟨s.2,x,rfl,?_⟩
    rcases (once_tour up ls k).root s (List.mem_of_getElem? hs) with h0|h0
    ·exact .inl h0
    ·obtain ⟨j,hj,hp⟩:=List.mem_iff_getElem.1 h0
     exact .inr ⟨j,by omega,by rw [List.getElem?_append_left hj,List.getElem?_eq_getElem hj,hp]⟩
theorem pathC_inj : ∀ {a b : List (List UInt8)}, (∀ x ∈ a, (47 : UInt8) ∉ x) → (∀ x ∈ b, (47 : UInt8) ∉ x) → pathC a = pathC b → a = b
 | [],[],_,_,_=>rfl
 | [],y::s,_,_,h=>by simp [pathC] at h
 | x::r,[],_,_,h=>by simp [pathC] at h
 | x::r,y::s,ha,hb,h=>by
  have h1:x++pathC r=y++pathC s:=by
   have:47::(x++pathC r)=47::(y++pathC s):=by simpa [pathC] using h
   exact (List.cons.inj this).2
  have key:∀(x y:List UInt8) (p q:List UInt8),(47:UInt8)∉x→(47:UInt8)∉y→(p=[]∨∃t,p=47::t)→(q=[]∨∃t,q=47::t)→x++p=y++q→x=y∧p=q:=by
   intro x
   induction x with
   | nil =>
    intro y p q _ hy hp hq h
    cases y with
    | nil=>exact ⟨rfl,h⟩
    | cons c y =>
     rcases hp with hp|⟨t,hp⟩
     ·rw [hp] at h;simp at h
     ·rw [hp] at h
      simp only [List.nil_append,List.cons_append,List.cons.injEq] at h
      exact absurd (by rw [←h.1];exact List.mem_cons_self) hy
   | cons d x ih =>
    intro y p q hx hy hp hq h
    cases y with
    | nil =>
     rcases hq with hq|⟨t,hq⟩
     ·rw [hq] at h;simp at h
     ·rw [hq] at h
      simp only [List.nil_append,List.cons_append,List.cons.injEq] at h
      exact absurd (by rw [h.1];exact List.mem_cons_self) hx
    | cons c y =>
     simp only [List.cons_append,List.cons.injEq] at h
     obtain ⟨e1,e2⟩:=ih y p q (fun hm=>hx (List.mem_cons_of_mem _ hm)) (fun hm=>hy (List.mem_cons_of_mem _ hm)) hp hq h.2
     exact ⟨by rw [h.1,e1],e2⟩
  have hpq:∀l:List (List UInt8),pathC l=[]∨∃t,pathC l=47::t:=fun l=>by
   cases l with
   | nil=>exact .inl rfl
   | cons a r=>exact .inr ⟨a++pathC r,by simp [pathC]⟩
  obtain ⟨e1,e2⟩:=key x y _ _ (ha x List.mem_cons_self) (hb y List.mem_cons_self) (hpq r) (hpq s) h1
  rw [e1,pathC_inj (fun z hz=>ha z (List.mem_cons_of_mem _ hz)) (fun z hz=>hb z (List.mem_cons_of_mem _ hz)) e2]
end Go.Proofs.YtmhiohnkjpglfaaGreat

namespace Go.Proofs.YtmhiohnkjpglfaaGreat
open Go.RowKit Plain

theorem names_good {up:List NodV} {ls:List (List NodV)} (hF:FewL ls) (hup:FewU up) {v:ViewV} {x:List UInt8} (h:x∈namesV up ls v):nameB x=true:=by
  unfold namesV at h
  have h1:=(List.mem_filter.1 h).1
  rw [(sortS_rising _).2] at h1
  unfold allV at h1
  have key:∀(ns:List NodV) (i:Int),(∀y∈ns,PlainN y)→∀e∈entB ns i,nameB e.name=true:=fun ns i hns e he=>by
    have h4:e∈(nodAt ns i).ents:=by
      unfold entB at he
      split at he
      · exact he
      · cases he
    exact (nodAt_plain hns i).2.2.2.2.2.2 e h4
  rcases List.mem_append.1 h1 with h2|h2
  · unfold namesL at h2
    have h3:=(List.mem_filter.1 h2).1
    rw [(sortS_rising _).2] at h3
    unfold allN at h3
    obtain ⟨p,-,hp⟩:=List.mem_flatMap.1 h3
    obtain ⟨e,he,rfl⟩:=List.mem_map.1 hp
    rw [←ent_lay] at he
    refine key (layL ls p.1) p.2 (fun y hy=>?_) e he
    unfold layL at hy
    first
    | (split at hy
       · rename_i hc
         cases hq:ls[(p.1 - 1).toNat]? with
         | none=>rw [hq] at hy;simp at hy
         | some ns=>rw [hq] at hy;exact (hF.2 ns (List.mem_of_getElem? hq)).2 y (by simpa using hy)
       · cases hy)
  · obtain ⟨e,he,rfl⟩:=List.mem_map.1 h2
    exact key up v.1 hup.2 e he
theorem join_path {l:List (List UInt8)} (h:l≠[]):joinS l=pathC l:=by
  induction l using snoc_ind with
  | h0=>exact absurd rfl h
  | h1 l x ih =>
    rw [joinS_snoc]
    by_cases h0:l=[]
    · subst h0
      simp [pathC,joinS_nil]
    · rw [if_neg (by simpa using h0),ih h0]
      simp [pathC]
theorem tour_good {up : List NodV} {ls : List (List NodV)} (hF : FewL ls) (hup : FewU up) : ∀ k, (∀ n ∈ tourN up ls k, n ≠ [] ∧ n.all nameB = true) ∧ ∀ s ∈ (tourS up ls k).1, s.2.all nameB = true
  | 0=>by
    refine ⟨by simp [tourN],fun s hs=>?_⟩
    simp only [tourS,List.mem_singleton] at hs
    rw [hs]
    rfl
  | k+1=>by
    obtain ⟨i1,i2⟩:=tour_good hF hup k
    cases hs:(tourS up ls k).1[k]? with
    | none =>
      rw [(tourN_none hs).1,(tourN_none hs).2]
      exact ⟨i1,i2⟩
    | some s =>
      have h2:=i2 s (List.mem_of_getElem? hs)
      have key:∀x∈keptS up ls s.1,(s.2++[x]).all nameB=true:=fun x hx=>by
        have h3:=names_good hF hup (List.mem_filter.1 hx).1
        rw [List.all_append,h2]
        simpa using h3
      rw [tour_some hs,tourN_some hs]
      refine ⟨fun n hn=>?_,fun t ht=>?_⟩
      · rcases List.mem_append.1 hn with h|h
        · exact i1 n h
        · obtain ⟨x,hx,rfl⟩:=List.mem_map.1 h
          exact ⟨by simp,key x hx⟩
      · rcases List.mem_append.1 ht with h|h
        · exact i2 t h
        · unfold nextS at h
          obtain ⟨x,hx,rfl⟩:=List.mem_map.1 h
          exact key x (List.mem_filter.1 hx).1
theorem told_split {n:List (List UInt8)} (h:n≠[]∧n.all nameB=true):splitB (pathC n)=true∧splitS (pathC n)=n:=by
  rw [←join_path h.1]
  exact split_join h.2
theorem told_once {up:List NodV} {ls:List (List NodV)} (hF:FewL ls) (hup:FewU up) (k:Nat):((tourS up ls k).2.map (fun x=>x.1)).Nodup:=by
  rw [told_names]
  unfold List.Nodup
  rw [List.pairwise_map]
  have h1:=(once_tour up ls k).told
  refine List.Pairwise.imp_of_mem (fun {a b} ha hb hab e=>hab ?_) h1
  have g:=(tour_good hF hup k).1
  exact pathC_inj (fun x hx hc=>nameB_noslash (List.all_eq_true.1 (g a ha).2 x hx) 47 hc rfl) (fun x hx hc=>nameB_noslash (List.all_eq_true.1 (g b hb).2 x hx) 47 hc rfl) e
end Go.Proofs.YtmhiohnkjpglfaaGreat

namespace Go.Proofs.YtmhiohnkjpglfaaGreat
open Go.RowKit Go.Shelf Plain

theorem totL_path (l:List (List UInt8)):totL l=(pathC l).length:=by
 induction l with
 | nil=>rfl
 | cons x r ih =>
  have h1:totL (x::r)=x.length+1+totL r:=by simp [totL]
  have h2:pathC (x::r)=(47::x)++pathC r:=by simp [pathC]
  rw [h1,h2,List.length_append,List.length_cons,ih]
theorem totL_ge (l:List (List UInt8)):l.length≤totL l:=by
 induction l with
 | nil=>simp
 | cons x r ih =>
  have h1:totL (x::r)=x.length+1+totL r:=by simp [totL]
  rw [h1,List.length_cons]
  omega
theorem told_short {up : List NodV} {ls : List (List NodV)} (hT : ∀ ns ∈ ls, TreeL ns) (hF : FewL ls) (hup : FewU up) : ∀ k, ∀ x ∈ (tourS up ls k).2, x.1.length ≤ 13 * k
 | 0=>by simp [tourS]
 | k+1=>by
  have ih:=told_short hT hF hup k
  cases hs:(tourS up ls k).1[k]? with
  | none =>
   have hk:(tourS up ls k).1.length≤k:=by simpa using hs
   rw [tour_end hk 1]
   intro x hx
   have:=ih x hx
   omega
  | some s =>
   rw [tour_some hs]
   intro t ht
   rcases List.mem_append.1 ht with ht|ht
   ·have:=ih t ht
    omega
   ·unfold toldS at ht
    obtain ⟨x,hx,rfl⟩:=List.mem_map.1 ht
    have h3:=names_right hF hup (List.mem_filter.1 hx).1
    have h4:=(tour_more hT hF hup k).1 s (List.mem_of_getElem? hs)
    show (pathC (s.2++[x])).length≤13*(k+1)
    rw [path_snoc,List.length_append,List.length_cons]
    omega
structure ToldN (up : List NodV) (ls : List (List NodV)) (l : List ShnV) (j : Nat) (x : ShnV) (n : List (List UInt8)) : Prop where
 ne:n≠[]
 is:x=atX up ls n
 split:splitB x.1=true∧splitS x.1=n
 few:totL n≤30000
 short:x.1.length≤30000
 once:(l.take j).any (fun y=>y.1==x.1)=false
 behind:1 < n.length→(l.take j).any (fun y=>y.1==joinS (n.take (n.length - 1)))=true
theorem told_atK {up:List NodV} {ls:List (List NodV)} (hF:FewL ls) (hup:FewU up) (hT:∀ns∈ls,TreeL ns) {K:Nat} (hK:K≤1800) {j:Nat} {x:ShnV} (h:(tourS up ls K).2[j]?=some x):∃n,ToldN up ls (tourS up ls K).2 j x n:=by
 obtain ⟨hst,hto⟩:=tour_at up ls K
 have hon:=told_once hF hup K
 have hsh:=told_short hT hF hup K
 have hgo:=(tour_good hF hup K).1
 have hup2:=tour_up up ls K
 obtain ⟨ns,ens⟩:∃ns,tourN up ls K=ns:=⟨_,rfl⟩
 rw [ens] at hto hgo hup2
 have h0:=h
 rw [hto,List.getElem?_map] at h
 cases hn:ns[j]? with
 | none=>rw [hn] at h;cases h
 | some n =>
  rw [hn] at h
  have hx:atX up ls n=x:=by simpa using h
  subst hx
  have hg:=hgo n (List.mem_of_getElem? hn)
  have hl:=hsh _ (List.mem_of_getElem? h0)
  have hl2:(pathC n).length≤13*K:=hl
  refine ⟨n,hg.1,rfl,told_split hg,?_,by show (pathC n).length≤30000;omega,?_,fun hlen=>?_⟩
  ·rw [totL_path];omega
  ·rw [List.any_eq_false]
   intro y hy he
   have e1:y.1=(atX up ls n).1:=by simpa using he
   obtain ⟨i,hi⟩:=List.getElem?_of_mem hy
   rw [List.getElem?_take] at hi
   split at hi
   ·rename_i hij
    have hjl:=(List.getElem?_eq_some_iff.1 h0).1
    have hil:=(List.getElem?_eq_some_iff.1 hi).1
    have h3:=(List.pairwise_iff_getElem.1 hon) i j (by rw [List.length_map];exact hil) (by rw [List.length_map];exact hjl) hij
    apply h3
    rw [List.getElem_map,List.getElem_map,(List.getElem?_eq_some_iff.1 hi).2,(List.getElem?_eq_some_iff.1 h0).2]
    exact e1
   ·cases hi
  ·obtain ⟨p,y,e,hp⟩:=hup2 j n hn
   rcases hp with rfl|⟨i,hij,hi⟩
   ·rw [e] at hlen;simp at hlen
   ·rw [List.any_eq_true]
    refine ⟨atX up ls p,?_,?_⟩
    ·rw [List.mem_iff_getElem?]
     refine ⟨i,?_⟩
     rw [List.getElem?_take,if_pos hij,hto,List.getElem?_map,hi]
     rfl
    ·have hp:p≠[]:=(hgo p (List.mem_of_getElem? hi)).1
     have e2:n.take (n.length - 1)=p:=by rw [e];simp
     rw [e2,join_path hp]
     simp [atX]
theorem all_at {up:List NodV} {ls:List (List NodV)} (hF:FewL ls) (hup:FewU up) {j:Nat} {x:ShnV} (h:(allS up ls)[j]?=some x):∃n,ToldN up ls (allS up ls) j x n:=by
 unfold allS at h ⊢
 split at h
 ·cases h
 ·rename_i ht
  rw [if_neg ht]
  exact told_atK hF hup (tang_tree (by simpa using ht:ls.any tangB=false)) (Nat.le_refl _) h
end Go.Proofs.YtmhiohnkjpglfaaGreat

namespace Go.Proofs.YtmhiohnkjpglfaaGreat
open Go.RowKit Go.Shelf Plain

theorem eq_txt (a b:List UInt8) (W:World):(binOp .eql 9 (.string ⟨a.toArray⟩) (.string ⟨b.toArray⟩)).run Tryz.prog W=.ok (.bool (a==b)) W:=by
 by_cases h:a=b
 ·simp [go_sem,h]
 ·simp [go_sem]
set_option maxRecDepth 100000 in
set_option maxHeartbeats 1600000 in
theorem SO1_any (y:ShnV) {gX:Nat} {t:List UInt8} (w:World) (q:w.cell? ⟨gX,0,none⟩=some (.string ⟨t.toArray⟩)) (hgX:gX < w.heap.size):Calls Tryz.prog 21 #[.agg (shnC y).toArray,.pointer (some ⟨gX,0,none⟩)] w (BoolB w (y.1==t)):=by
 have r:=RowL.new w 37 (shnC y)
 have hb:=below_new (below_self w) (.cells (shnC y).toArray 37)
 have q1:(w.alloc (.cells (shnC y).toArray 37)).cell? ⟨w.heap.size,0,none⟩=some (.string ⟨y.1.toArray⟩):=r.cell 0
 have q2:=(hb.cell (p:=⟨gX,0,none⟩) hgX).trans q
 have heq:=fun W=>eq_txt y.1 t W
 have HB:=hide hb
 clear r hb q
 go_enter Tryz.func21,Tryz.ntmps21
 go_wp2
 go_ret
 exact BoolB.of HB.out
set_option maxRecDepth 100000 in
set_option maxHeartbeats 1600000 in
theorem SoIdx1_any {A:Option Addr} {n c gX:Nat} {l:List ShnV} {p:ShnV→Bool} (w:World) (h:RdE shnEn w (Under w.heap.size) A n l) (hm:n≤1000000000) (hp:∀(W:World) (y:ShnV),y∈l→Below w.heap.size w W→Calls Tryz.prog 21 #[.agg (shnC y).toArray,.pointer (some ⟨gX,0,none⟩)] W (BoolB W (p y))) :
  Calls Tryz.prog 63 #[.slice A n c,.func (.func 21) #[] #[.pointer (some ⟨gX,0,none⟩)]] w (fun e w'=>∃r:Int,e=.returned (.int .i64 r)∧Below w.heap.size w w'∧((r = -1∧∀x∈l,p x=false)∨(0≤r∧∃x∈l,p x=true))):=by
 have H:=hide h
 have hn:=h.1
 have HP:=hide hp
 clear h hp
 go_enter Tryz.func63,Tryz.ntmps63
 go_wp2_with fail
 go_loopw [8] (fun iv wr=>∃j:Nat,j≤n∧iv=.int .i64 j∧Below w.heap.size w wr∧∀i x,i < j→l[i]?=some x→p x=false) (fun iv _=>n - (intOf iv).toNat)
 case atStart=>exact ⟨0,by omega,rfl,below_self _,fun i x hi=>by omega⟩
 case round =>
  obtain ⟨j,hj,rfl,hbr,hall⟩:=hrel
  have HBR:=hide hbr
  have HALL:=hide hall
  have hbs:=hbr.size
  clear hbr hall
  by_cases hlt:j < n
  ·obtain ⟨x,hx⟩:∃x,l[j]?=some x:=⟨_,List.getElem?_eq_getElem (by omega)⟩
   obtain ⟨b,o,rfl,-,hc⟩:=shn_get (H.out.on HBR.out) hx
   have HC:=hide hc
   have HX:=hide hx
   have hjn:(j:Int) < (n:Int):=by omega
   clear hc hx
   go_wp2_with (refine wpList_loadX rfl 37 (.tmp 14) rfl 4 shn_agg shn_size b (o+j*4) rfl (shnC x) HC.out rfl ?_)
   obtain ⟨r,hr⟩:∃r,p x=r:=⟨_,rfl⟩
   have hcall:=HP.out wr x (List.mem_of_getElem? HX.out) HBR.out
   rw [hr] at hcall
   have HR:=hide hr
   clear hr
   refine hcall.mono ?_
   rintro e w3 ⟨rfl,hb3⟩
   have HB3:=hide (HBR.out.trans (hb3.mono hbs))
   clear hb3 hcall
   cases r with
   | true =>
    go_wp2_with fail
    go_ret
    exact ⟨(j:Int),rfl,HB3.out,.inr ⟨by omega,x,List.mem_of_getElem? HX.out,HR.out⟩⟩
   | false =>
    go_wp2_with fail
    go_roundw
    case rel=>exact ⟨j+1,by omega,by go_num,HB3.out,fun i y hi hy=>by
     by_cases e:i=j
     ·subst e
      have:=HX.out.symm.trans hy
      cases this
      exact HR.out
     ·exact HALL.out i y (by omega) hy⟩
    case measure=>simp [intOf];omega
  ·obtain rfl:j=n:=by omega
   go_wp2_with fail
   go_ret
   exact ⟨-1,rfl,HBR.out,.inl ⟨rfl,fun x hx=>by
    obtain ⟨i,hi,rfl⟩:=List.mem_iff_getElem.1 hx
    exact HALL.out i _ (by omega) (List.getElem?_eq_getElem hi)⟩⟩
set_option maxRecDepth 100000 in
theorem SoHas1_any {A:Option Addr} {n c gX:Nat} {l:List ShnV} {p:ShnV→Bool} (w:World) (h:RdE shnEn w (Under w.heap.size) A n l) (hm:n≤1000000000) (hp:∀(W:World) (y:ShnV),y∈l→Below w.heap.size w W→Calls Tryz.prog 21 #[.agg (shnC y).toArray,.pointer (some ⟨gX,0,none⟩)] W (BoolB W (p y))) :
  Calls Tryz.prog 20 #[.slice A n c,.func (.func 21) #[] #[.pointer (some ⟨gX,0,none⟩)]] w (BoolB w (l.any p)):=by
 have H:=hide h
 have HQ:=hide hp
 clear h hp
 go_enter Tryz.func20,Tryz.ntmps20
 go_wp2_with (go_at_call 63;refine (SoIdx1_any w H.out hm HQ.out).mono ?_;rintro e w3 ⟨r,rfl,hb3,hp⟩;have HP:=hide hp;have HB3:=hide hb3;clear hp hb3)
 go_ret
 refine BoolB.eq ?_ HB3.out
 rcases HP.out with ⟨h1,h2⟩|⟨h1,ns,h2,h3⟩
 ·subst h1
  have:l.any p=false:=by rw [List.any_eq_false];exact fun x hx=>by rw [h2 x hx];simp
  rw [this]
  rfl
 ·have:l.any p=true:=List.any_eq_true.2 ⟨ns,h2,h3⟩
  rw [this]
  simpa using h1
set_option maxRecDepth 100000 in
set_option maxHeartbeats 1600000 in
theorem SoIdx2_any {A:Option Addr} {n c gX:Nat} {l:List ShnV} {p:ShnV→Bool} (w:World) (h:RdE shnEn w (Under w.heap.size) A n l) (hm:n≤1000000000) (hp:∀(W:World) (y:ShnV),y∈l→Below w.heap.size w W→Calls Tryz.prog 22 #[.agg (shnC y).toArray,.pointer (some ⟨gX,0,none⟩)] W (BoolB W (p y))) :
  Calls Tryz.prog 63 #[.slice A n c,.func (.func 22) #[] #[.pointer (some ⟨gX,0,none⟩)]] w (fun e w'=>∃r:Int,e=.returned (.int .i64 r)∧Below w.heap.size w w'∧((r = -1∧∀x∈l,p x=false)∨(0≤r∧∃x∈l,p x=true))):=by
 have H:=hide h
 have hn:=h.1
 have HP:=hide hp
 clear h hp
 go_enter Tryz.func63,Tryz.ntmps63
 go_wp2_with fail
 go_loopw [8] (fun iv wr=>∃j:Nat,j≤n∧iv=.int .i64 j∧Below w.heap.size w wr∧∀i x,i < j→l[i]?=some x→p x=false) (fun iv _=>n - (intOf iv).toNat)
 case atStart=>exact ⟨0,by omega,rfl,below_self _,fun i x hi=>by omega⟩
 case round =>
  obtain ⟨j,hj,rfl,hbr,hall⟩:=hrel
  have HBR:=hide hbr
  have HALL:=hide hall
  have hbs:=hbr.size
  clear hbr hall
  by_cases hlt:j < n
  ·obtain ⟨x,hx⟩:∃x,l[j]?=some x:=⟨_,List.getElem?_eq_getElem (by omega)⟩
   obtain ⟨b,o,rfl,-,hc⟩:=shn_get (H.out.on HBR.out) hx
   have HC:=hide hc
   have HX:=hide hx
   have hjn:(j:Int) < (n:Int):=by omega
   clear hc hx
   go_wp2_with (refine wpList_loadX rfl 37 (.tmp 14) rfl 4 shn_agg shn_size b (o+j*4) rfl (shnC x) HC.out rfl ?_)
   obtain ⟨r,hr⟩:∃r,p x=r:=⟨_,rfl⟩
   have hcall:=HP.out wr x (List.mem_of_getElem? HX.out) HBR.out
   rw [hr] at hcall
   have HR:=hide hr
   clear hr
   refine hcall.mono ?_
   rintro e w3 ⟨rfl,hb3⟩
   have HB3:=hide (HBR.out.trans (hb3.mono hbs))
   clear hb3 hcall
   cases r with
   | true =>
    go_wp2_with fail
    go_ret
    exact ⟨(j:Int),rfl,HB3.out,.inr ⟨by omega,x,List.mem_of_getElem? HX.out,HR.out⟩⟩
   | false =>
    go_wp2_with fail
    go_roundw
    case rel=>exact ⟨j+1,by omega,by go_num,HB3.out,fun i y hi hy=>by
     by_cases e:i=j
     ·subst e
      have:=HX.out.symm.trans hy
      cases this
      exact HR.out
     ·exact HALL.out i y (by omega) hy⟩
    case measure=>simp [intOf];omega
  ·obtain rfl:j=n:=by omega
   go_wp2_with fail
   go_ret
   exact ⟨-1,rfl,HBR.out,.inl ⟨rfl,fun x hx=>by
    obtain ⟨i,hi,rfl⟩:=List.mem_iff_getElem.1 hx
    exact HALL.out i _ (by omega) (List.getElem?_eq_getElem hi)⟩⟩
set_option maxRecDepth 100000 in
theorem SoHas2_any {A:Option Addr} {n c gX:Nat} {l:List ShnV} {p:ShnV→Bool} (w:World) (h:RdE shnEn w (Under w.heap.size) A n l) (hm:n≤1000000000) (hp:∀(W:World) (y:ShnV),y∈l→Below w.heap.size w W→Calls Tryz.prog 22 #[.agg (shnC y).toArray,.pointer (some ⟨gX,0,none⟩)] W (BoolB W (p y))) :
  Calls Tryz.prog 20 #[.slice A n c,.func (.func 22) #[] #[.pointer (some ⟨gX,0,none⟩)]] w (BoolB w (l.any p)):=by
 have H:=hide h
 have HQ:=hide hp
 clear h hp
 go_enter Tryz.func20,Tryz.ntmps20
 go_wp2_with (go_at_call 63;refine (SoIdx2_any w H.out hm HQ.out).mono ?_;rintro e w3 ⟨r,rfl,hb3,hp⟩;have HP:=hide hp;have HB3:=hide hb3;clear hp hb3)
 go_ret
 refine BoolB.eq ?_ HB3.out
 rcases HP.out with ⟨h1,h2⟩|⟨h1,ns,h2,h3⟩
 ·subst h1
  have:l.any p=false:=by rw [List.any_eq_false];exact fun x hx=>by rw [h2 x hx];simp
  rw [this]
  rfl
 ·have:l.any p=true:=List.any_eq_true.2 ⟨ns,h2,h3⟩
  rw [this]
  simpa using h1
end Go.Proofs.YtmhiohnkjpglfaaGreat

namespace Go.Proofs.YtmhiohnkjpglfaaGreat
open Go.RowKit Go.Shelf Plain

set_option maxRecDepth 100000 in
set_option maxHeartbeats 4000000 in
theorem SO2_any (y:ShnV) {gX k c:Nat} {AN:Option Addr} {names:List (List UInt8)} (w:World) (q:w.cell? ⟨gX,0,none⟩=some (.slice AN (k+1) c)) (hgX:gX < w.heap.size) (hr:Rd st w w.heap.size AN k (names.take k)) (hk:k≤2000000) (hc:k < c) (hT:totL (names.take k)≤140737488355327):Calls Tryz.prog 22 #[.agg (shnC y).toArray,.pointer (some ⟨gX,0,none⟩)] w (BoolB w (y.1==joinS (names.take k))):=by
 obtain ⟨W1,hW1⟩:∃W1,(w.alloc (.cells (shnC y).toArray 37))=W1:=⟨_,rfl⟩
 obtain ⟨r0,hb1,hs1⟩:=rowA1 w _ _ hW1
 have hW1':(w.alloc (.cells #[.string ⟨y.1.toArray⟩,.int .i64 y.2.1,.int .i64 y.2.2.1,.int .i64 y.2.2.2] 37))=W1:=hW1
 have R2:=hide r0
 have HB:=hide hb1
 have hsz0:=hb1.size
 have HQ:=hide ((hb1.cell (p:=⟨gX,0,none⟩) hgX).trans q)
 have HR:=hide (hr.on hb1)
 have hs1':w.heap.size+1≤W1.heap.size:=by omega
 have heq:=fun W=>eq_txt y.1 (joinS (names.take k)) W
 have hwk:IntKind.i64.wrap (k:Int)=(k:Int):=IntWalk.i64_in _ (by omega)
 have hkc:(0:Int)≤(k:Int)∧(k:Int)≤(c:Int):=by omega
 unfold shnC
 clear r0 hb1 hW1 q hr hs1
 go_enter Tryz.func22,Tryz.ntmps22
 go_wp2_with fail
 refine wp_region_plan (fun w'=>Below W1.heap.size W1 w') [(0,true),(1,true),(2,true),(3,true),(4,true),(5,true),(6,true),(7,false),(8,true),(9,true)] (by kernel_rfl) (by kernel_rfl) (by kernel_rfl) (by kernel_rfl) rfl (fun _ _ _ _ _ h=>h) (below_drew (below_self W1)) (fun hHeld=>?_)
 simp only [planOps,List.filterMap_cons,List.filterMap_nil,List.getElem?_toArray,List.getElem?_cons_succ,List.getElem?_cons_zero,Option.map_some]
 refine wpPlan_take (v:=?_) (by kernel_rfl) (fun wS hSw=>?_) ?_
 rotate_left
 ·(try dsimp only at hSw);go_simp;(try with_reducible rfl)
 (try simp only [Act.put,pu1,pu2,pu3])
 refine wpPlan_take (v:=?_) (by kernel_rfl) (fun wS hSw=>?_) ?_
 rotate_left
 ·have qx:wS.cell? ⟨w.heap.size,0,none⟩=some (.string ⟨y.1.toArray⟩):=(R2.out.on hSw).cell 0;go_simp;(try with_reducible rfl)
 (try simp only [Act.put,pu1,pu2,pu3])
 refine wpPlan_take (v:=?_) (by kernel_rfl) (fun wS hSw=>?_) ?_
 rotate_left
 ·have qx:=(hSw.cell (p:=⟨gX,0,none⟩) (by show gX < W1.heap.size;omega)).trans HQ.out;go_simp;(try with_reducible rfl)
 (try simp only [Act.put,pu1,pu2,pu3])
 refine wpPlan_take (v:=?_) (by kernel_rfl) (fun wS hSw=>?_) ?_
 rotate_left
 ·have qx:=(hSw.cell (p:=⟨gX,0,none⟩) (by show gX < W1.heap.size;omega)).trans HQ.out;go_simp;(try with_reducible rfl)
 (try simp only [Act.put,pu1,pu2,pu3])
 iterate 2
  refine wpPlan_take (v:=?_) (by kernel_rfl) (fun wS hSw=>?_) ?_
  rotate_left
  ·(try dsimp only at hSw);go_simp;(try with_reducible rfl)
  (try simp only [Act.put,pu1,pu2,pu3])
 refine wpPlan_take (v:=?_) (by kernel_rfl) (fun wS hSw=>?_) ?_
 rotate_left
 ·(try dsimp only at hSw);go_simp;(try rw [if_pos hkc]);(try simp only [Int.toNat_natCast]);(try rfl)
 (try simp only [Act.put,pu1,pu2,pu3])
 refine wpPlan_call (by kernel_rfl) (fun K hK=>?_)
 have hOld:=hide hHeld
 clear hHeld
 go_simp
 go_at_call 23
 refine (PJoin_any (l:=names.take k) _ ((HR.out.on hOld.out).more (by have:=hOld.out.size;omega)) (by omega) (by omega) hT).mono ?_
 rintro e w' ⟨rfl,hbel⟩
 unfold st
 refine hK.out _ _ (hOld.out.trans (hbel.mono hOld.out.size)) (fun hHeld=>?_)
 clear hK K
 (try simp only [Act.put,pu1,pu2,pu3])
 iterate 2
  refine wpPlan_take (v:=?_) (by kernel_rfl) (fun wS hSw=>?_) ?_
  rotate_left
  ·(try dsimp only at hSw);go_simp;(try with_reducible rfl)
  (try simp only [Act.put,pu1,pu2,pu3])
 refine wpPlan_end ?_
 go_wp2_with fail
 go_ret
 exact BoolB.of (HB.out.trans (hHeld.mono (by omega)))
end Go.Proofs.YtmhiohnkjpglfaaGreat

