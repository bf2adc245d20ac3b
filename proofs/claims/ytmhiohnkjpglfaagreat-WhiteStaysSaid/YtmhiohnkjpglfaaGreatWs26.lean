import Derived.Test.YtmhiohnkjpglfaaGreatWs25
import Derived.Test.YtmhiohnkjpglfaaGreatWs18
import Derived.Test.YtmhiohnkjpglfaaGreatWs19

namespace Go.Proofs.YtmhiohnkjpglfaaGreat
open Go.RowKit Plain

def againS (up:List NodV) (d:Int) (x:List UInt8):Bool:=match firstB up d x with
 | none=>false
 | some e=>(twiceS up (walkW up [1])).contains (d,e.slot)
def keptS (up:List NodV) (ls:List (List NodV)) (v:ViewV):List (List UInt8):=(namesV up ls v).filter (fun x=>!againS up v.1 x)
abbrev StopV:=ViewV×List (List UInt8)
abbrev ShnV:=List UInt8×Int×(Int×Int)
def pathC (l:List (List UInt8)):List UInt8:=l.flatMap (fun x=>47::x)
def toldX (up:List NodV) (ls:List (List NodV)) (s:StopV) (x:List UInt8):ShnV:=(pathC (s.2++[x]),(stepV up ls s.1 x).1,(stepV up ls s.1 x).2.2)
def nextX (up:List NodV) (ls:List (List NodV)) (s:StopV) (x:List UInt8):StopV:=((stepV up ls s.1 x).2.1,s.2++[x])
def dirX (up:List NodV) (ls:List (List NodV)) (v:ViewV) (x:List UInt8):Bool:=decide ((stepV up ls v x).1=1)
def toldS (up:List NodV) (ls:List (List NodV)) (s:StopV):List ShnV:=(keptS up ls s.1).map (toldX up ls s)
def nextS (up:List NodV) (ls:List (List NodV)) (s:StopV):List StopV:=((keptS up ls s.1).filter (dirX up ls s.1)).map (nextX up ls s)
def tourS (up : List NodV) (ls : List (List NodV)) : Nat → List StopV × List ShnV
 | 0=>([(rootV up ls,[])],[])
 | k+1=>match (tourS up ls k).1[k]? with
  | none=>tourS up ls k
  | some s=>((tourS up ls k).1++nextS up ls s,(tourS up ls k).2++toldS up ls s)
theorem tour_some {up:List NodV} {ls:List (List NodV)} {k:Nat} {s:StopV} (h:(tourS up ls k).1[k]?=some s):tourS up ls (k+1)=((tourS up ls k).1++nextS up ls s,(tourS up ls k).2++toldS up ls s):=by
 show (match (tourS up ls k).1[k]? with|none=>tourS up ls k|some s=>((tourS up ls k).1++nextS up ls s,(tourS up ls k).2++toldS up ls s))=_
 rw [h]
theorem tour_end {up : List NodV} {ls : List (List NodV)} {k : Nat} (h : (tourS up ls k).1.length ≤ k) : ∀ m, tourS up ls (k + m) = tourS up ls k
 | 0=>rfl
 | m+1=>by
  have ih:=tour_end h m
  show (match (tourS up ls (k+m)).1[k+m]? with|none=>tourS up ls (k+m)|some s=>((tourS up ls (k+m)).1++nextS up ls s,(tourS up ls (k+m)).2++toldS up ls s))=_
  rw [ih,List.getElem?_eq_none (by omega)]

def optN (f:EntV→Nat) (o:Option EntV):Nat:=match o with
 | none=>0
 | some e=>f e
theorem sum_erase (f : EntV → Nat) : ∀ {es : List EntV} {e : EntV}, e ∈ es → (es.map f).sum = f e + ((es.erase e).map f).sum
 | [],_,h=>absurd h (by simp)
 | a::r,e,h=>by
  by_cases hae:a=e
  ·subst hae
   rw [List.erase_cons_head,List.map_cons,List.sum_cons]
  ·rcases List.mem_cons.1 h with h|h
   ·exact absurd h.symm hae
   ·rw [List.erase_cons_tail (by simpa using hae),List.map_cons,List.sum_cons,List.map_cons,List.sum_cons,sum_erase f h]
    omega
theorem sum_inj (f : EntV → Nat) (g : List UInt8 → Option EntV) : ∀ (xs : List (List UInt8)) (es : List EntV), xs.Nodup → (∀ x ∈ xs, ∀ e, g x = some e → e ∈ es ∧ e.name = x) → (xs.map (fun x => optN f (g x))).sum ≤ (es.map f).sum
 | [],_,_,_=>by simp
 | x::r,es,hn,h=>by
  rw [List.nodup_cons] at hn
  rw [List.map_cons,List.sum_cons]
  cases hg:g x with
  | none =>
   have:=sum_inj f g r es hn.2 (fun y hy=>h y (List.mem_cons_of_mem _ hy))
   show 0+_≤_
   omega
  | some e =>
   obtain ⟨h1,h2⟩:=h x List.mem_cons_self e hg
   have:=sum_inj f g r (es.erase e) hn.2 (fun y hy e' he'=>by
    obtain ⟨h3,h4⟩:=h y (List.mem_cons_of_mem _ hy) e' he'
    refine ⟨(List.mem_erase_of_ne fun q=>hn.1 ?_).2 h3,h4⟩
    rw [←h2,←q,h4]
    exact hy)
   rw [sum_erase f h1]
   show f e+_≤_
   omega
theorem sum_swap {α β : Type} (f : α → β → Nat) : ∀ (l : List α) (k : List β), (l.map (fun x => (k.map (fun y => f x y)).sum)).sum = (k.map (fun y => (l.map (fun x => f x y)).sum)).sum
 | [],k=>by
  induction k with
  | nil=>rfl
  | cons y r ih=>simpa using ih
 | x::r,k=>by
  rw [List.map_cons,List.sum_cons,sum_swap f r k]
  induction k with
  | nil=>rfl
  | cons y k ih=>simp only [List.map_cons,List.sum_cons] at ih ⊢;omega
theorem sum_add {α : Type} (f g : α → Nat) : ∀ (l : List α), (l.map (fun x => f x + g x)).sum = (l.map f).sum + (l.map g).sum
 | []=>rfl
 | x::r=>by simp only [List.map_cons,List.sum_cons,sum_add f g r];omega
theorem sum_mul {α : Type} (c : Nat) (f : α → Nat) : ∀ (l : List α), (l.map (fun x => c * f x)).sum = c * (l.map f).sum
 | []=>rfl
 | x::r=>by simp only [List.map_cons,List.sum_cons,sum_mul c f r,Nat.mul_add]
theorem rising_nodup {l:List (List UInt8)} (h:Rising l):l.Nodup:=List.Pairwise.imp (fun {a b} hab e=>by subst e;rw [less_irrefl] at hab;cases hab) h
theorem names_nodup (up:List NodV) (ls:List (List NodV)) (v:ViewV):(namesV up ls v).Nodup:=(rising_nodup (sortS_rising (allV up ls v)).1).filter _
theorem keep_nodup (up:List NodV) (ls:List (List NodV)) (v:ViewV):(keptS up ls v).Nodup:=(names_nodup up ls v).filter _
def GoodP (ls:List (List NodV)) (p:Int×Int):Prop:=1≤p.1∧p.1≤(ls.length:Int)∧inW (layL ls p.1) p.2
def wP (ls:List (List NodV)) (p:Int×Int):Nat:=wt (layL ls p.1) p.2
def entP (ls:List (List NodV)) (p:Int×Int) (x:List UInt8):Option EntV:=match firstB (layL ls p.1) p.2 x with
 | none=>none
 | some e=>if (nodAt (layL ls p.1) e.ino).k=1 then some e else none
theorem ent_kids {ns:List NodV} {i:Int} {x:List UInt8} {e:EntV} (h:firstB ns i x=some e) (hk:(nodAt ns e.ino).k=1):e∈kidsW ns i∧e.name=x:=by
 obtain ⟨-,h2,h3⟩:=firstB_use h
 refine ⟨?_,h2⟩
 unfold entB at h3
 split at h3
 ·exact List.mem_filter.2 ⟨h3,by simpa [isDir] using hk⟩
 ·cases h3
theorem entP_kids {ls:List (List NodV)} {p:Int×Int} {x:List UInt8} {e:EntV} (h:entP ls p x=some e):e∈kidsW (layL ls p.1) p.2∧e.name=x:=by
 unfold entP at h
 cases hf:firstB (layL ls p.1) p.2 x with
 | none=>rw [hf] at h;cases h
 | some e' =>
  rw [hf] at h
  simp only at h
  split at h
  ·rename_i hk
   cases h
   exact ent_kids hf hk
  ·cases h
theorem lay_tree {ls:List (List NodV)} (hT:∀ns∈ls,TreeL ns) (hF:FewL ls) {la:Int} (h1:1≤la) (h2:la≤(ls.length:Int)):TreeL (layL ls la)∧(layL ls la).length≤24:=by
 refine ⟨?_,(lay_few hF la).1⟩
 unfold layL
 rw [if_pos ⟨h1,h2⟩]
 have h3:(la - 1).toNat < ls.length:=by omega
 rw [List.getElem?_eq_getElem h3]
 exact hT _ (List.getElem_mem h3)
theorem low_sum {ls:List (List NodV)} (hT:∀ns∈ls,TreeL ns) (hF:FewL ls) {p:Int×Int} (hp:GoodP ls p) {xs:List (List UInt8)} (hn:xs.Nodup):(xs.map (fun x=>optN (fun e=>wP ls (p.1,e.ino)) (entP ls p x))).sum≤wP ls p - 1:=by
 obtain ⟨h1,h2,h3⟩:=hp
 obtain ⟨ht,hl⟩:=lay_tree hT hF h1 h2
 have h4:=(tree_wt ht hl h3).1
 have h5:=sum_inj (fun e=>wP ls (p.1,e.ino)) (entP ls p) xs (kidsW (layL ls p.1) p.2) hn (fun x _ e he=>entP_kids he)
 have h6:wP ls p=1+((kidsW (layL ls p.1) p.2).map (fun e=>wP ls (p.1,e.ino))).sum:=h4
 omega
theorem good_kid {ls:List (List NodV)} (hT:∀ns∈ls,TreeL ns) (hF:FewL ls) {p c:Int×Int} {x:List UInt8} (hp:GoodP ls p) (h:firstL ls p x=some c) (hk:(lowAt ls c.1 c.2).k=1):GoodP ls c∧∃e,entP ls p x=some e∧c=(p.1,e.ino):=by
 rw [first_lay,Option.map_eq_some_iff] at h
 obtain ⟨e,he,rfl⟩:=h
 have hk2:(nodAt (layL ls p.1) e.ino).k=1:=by rw [lay_at];exact hk
 obtain ⟨h1,h2,h3⟩:=hp
 obtain ⟨ht,hl⟩:=lay_tree hT hF h1 h2
 refine ⟨⟨h1,h2,(tree_wt ht hl h3).2.2 e (ent_kids he hk2).1⟩,e,?_,rfl⟩
 unfold entP
 rw [he]
 simp only
 rw [if_pos hk2]
theorem find_good {ls : List (List NodV)} (hT : ∀ ns ∈ ls, TreeL ns) (hF : FewL ls) (x : List UInt8) : ∀ (l acc : List (Int × Int)), (∀ p ∈ l, GoodP ls p) → (∀ p ∈ acc, GoodP ls p) → (findL ls x l acc).1 = 1 → (∀ p ∈ (findL ls x l acc).2, GoodP ls p) ∧ ((findL ls x l acc).2.map (wP ls)).sum ≤ (acc.map (wP ls)).sum + (l.map (fun p => optN (fun e => wP ls (p.1, e.ino)) (entP ls p x))).sum
 | [],acc,_,ha,h=>by
  unfold findL at h ⊢
  split
  ·rename_i h0;rw [if_pos h0] at h;cases h
  ·exact ⟨ha,by simp⟩
 | p::r,acc,hl,ha,h=>by
  have hp:=hl p List.mem_cons_self
  have hr:=fun q hq=>hl q (List.mem_cons_of_mem _ hq)
  unfold findL at h ⊢
  rw [List.map_cons,List.sum_cons]
  cases hx:firstL ls p x with
  | none =>
   rw [hx] at h
   obtain ⟨i1,i2⟩:=find_good hT hF x r acc hr ha h
   exact ⟨i1,by simp only;omega⟩
  | some c =>
   rw [hx] at h
   simp only at h ⊢
   by_cases hk:(lowAt ls c.1 c.2).k=1
   ·rw [if_pos hk] at h ⊢
    obtain ⟨hg,e,he,hc⟩:=good_kid hT hF hp hx hk
    have ha2:∀q∈acc++[c],GoodP ls q:=fun q hq=>by
     rcases List.mem_append.1 hq with hq|hq
     ·exact ha q hq
     ·rw [List.mem_singleton] at hq;rw [hq];exact hg
    have hs:((acc++[c]).map (wP ls)).sum=(acc.map (wP ls)).sum+optN (fun e=>wP ls (p.1,e.ino)) (entP ls p x):=by
     rw [he,hc,List.map_append,List.sum_append]
     simp [optN]
    by_cases ho:opq (lowAt ls c.1 c.2)=true
    ·rw [if_pos ho] at h ⊢
     exact ⟨ha2,by rw [hs];omega⟩
    ·rw [if_neg ho] at h ⊢
     obtain ⟨i1,i2⟩:=find_good hT hF x r (acc++[c]) hr ha2 h
     rw [hs] at i2
     exact ⟨i1,by omega⟩
   ·rw [if_neg hk] at h ⊢
    by_cases h0:acc≠[]
    ·rw [if_pos h0]
     exact ⟨ha,by simp only;omega⟩
    ·rw [if_neg h0] at h
     exfalso
     split at h
     ·cases h
     ·exact hk h
theorem roots_good (ls : List (List NodV)) : ∀ (r : List (List NodV)) (j : Nat), (∀ q, ls[j + q]? = r[q]?) → ∀ p ∈ rootsL r j, GoodP ls p
 | [],_,_,p,h=>by simp [rootsL] at h
 | ns::r,j,hj,p,h=>by
  have h0:ls[j]?=some ns:=by simpa using hj 0
  have hlt:=(List.getElem?_eq_some_iff.1 h0).1
  have hg:(nodAt ns 1).k=1→GoodP ls ((j:Int)+1,1):=fun hk=>by
   refine ⟨by simp only;omega,by simp only;omega,?_⟩
   have:layL ls ((j:Int)+1)=ns:=by
    unfold layL
    rw [if_pos ⟨by omega,by omega⟩,show ((j:Int)+1 - 1).toNat=j by omega,h0]
    rfl
   simp only [this]
   exact in_root (by simpa [isDir] using hk)
  have hr:=roots_good ls r (j+1) (fun q=>by
   have:=hj (q+1)
   rw [show j+(q+1)=j+1+q by omega] at this
   simpa using this)
  unfold rootsL at h
  split at h
  ·rename_i hk
   split at h
   ·rw [List.mem_singleton] at h
    rw [h];exact hg hk
   ·rcases List.mem_cons.1 h with h|h
    ·rw [h];exact hg hk
    ·exact hr p h
  ·exact hr p h
theorem look_good {ls : List (List NodV)} (hT : ∀ ns ∈ ls, TreeL ns) (hF : FewL ls) : ∀ (xs : List (List UInt8)) (l : List (Int × Int)), (∀ p ∈ l, GoodP ls p) → ∀ p ∈ (lookL ls l xs).getD [], GoodP ls p
 | [],l,h=>h
 | x::r,l,h=>by
  unfold lookL
  split
  ·rename_i hk
   exact look_good hT hF r _ (find_good hT hF x l [] h (by simp) hk).1
  ·simp
theorem ben_good {ls:List (List NodV)} (hT:∀ns∈ls,TreeL ns) (hF:FewL ls) {l:List (Int×Int)} (x:List UInt8) (h:∀p∈l,GoodP ls p):∀p∈benV ls l x,GoodP ls p:=by
 unfold benV
 split
 ·rename_i hk
  exact (find_good hT hF x l [] h (by simp) hk).1
 ·simp
theorem roots_all (ls:List (List NodV)):∀p∈rootsL ls 0,GoodP ls p:=roots_good ls ls 0 (fun q=>by rw [Nat.zero_add])
theorem part_good {up:List NodV} {ls:List (List NodV)} (hT:∀ns∈ls,TreeL ns) (hF:FewL ls) {l:List (Int×Int)} (i:Int) (x:List UInt8) (h:∀p∈l,GoodP ls p):∀p∈partV up ls l i x,GoodP ls p:=by
 unfold partV redV
 split
 ·split
  ·simp
  ·split
   ·split
    ·split
     ·exact look_good hT hF _ _ (roots_all ls)
     ·exact ben_good hT hF _ h
    ·simp
   ·exact ben_good hT hF _ h
 ·simp

def upT (up:List NodV):List NodV:=pruneW up (walkW up [1])
theorem upT_tree (up:List NodV):TreeL (upT up):=by unfold TreeL upT;rw [prune_walk]
theorem upT_in (up:List NodV) (i:Int):inW (upT up) i↔inW up i:=by unfold inW upT;rw [prune_walk]
theorem upT_kids {up:List NodV} {i:Int} {e:EntV} {k:Nat} (hi:inW up i) (he:(nodAt up i).ents[k]?=some e) (hd:isDir up e.ino=true) (ht:(i,k)∉(walkW up [1]).2):e∈kidsW (upT up) i:=by
 obtain ⟨y,hy,hyi⟩:=hi
 have hr:reachW up (walkW up [1]).1 i=true:=by rw [←hyi];exact reach_way hy
 refine List.mem_filter.2 ⟨?_,?_⟩
 ·unfold upT
  rw [prune_at]
  unfold pruneN
  rw [if_pos hr]
  exact keep_mem he ht
 ·unfold upT
  rw [prune_dir,hd]
  have:reachW up (walkW up [1]).1 e.ino=true:=reach_ent hy (by rw [hyi];exact List.mem_of_getElem? he)
  simp [this]
def entU (up:List NodV) (d:Int) (x:List UInt8):Option EntV:=match firstB up d x with
 | none=>none
 | some e=>if (nodAt up e.ino).k=1∧againS up d x=false then some e else none
theorem entU_kids {up:List NodV} {d:Int} {x:List UInt8} {e:EntV} (hd:inW up d) (h:entU up d x=some e):e∈kidsW (upT up) d∧e.name=x:=by
 unfold entU at h
 cases hf:firstB up d x with
 | none=>rw [hf] at h;cases h
 | some e' =>
  rw [hf] at h
  simp only at h
  split at h
  ·rename_i hk
   cases h
   obtain ⟨-,h2,h3⟩:=firstB_use hf
   refine ⟨?_,h2⟩
   have h4:e∈(nodAt up d).ents:=by
    unfold entB at h3
    split at h3
    ·exact h3
    ·cases h3
   obtain ⟨k,hkl,hke⟩:=List.mem_iff_getElem.1 h4
   have he:(nodAt up d).ents[k]?=some e:=by rw [List.getElem?_eq_getElem hkl,hke]
   refine upT_kids hd he (by simpa [isDir] using hk.1) fun hm=>?_
   have h5:=hk.2
   unfold againS at h5
   rw [hf] at h5
   have h6:(d,e.slot)∈twiceS up (walkW up [1]):=List.mem_map.2 ⟨(d,k),hm,by unfold slotQ;simp only [he,Option.getD_some]⟩
   simp only at h5
   rw [List.contains_iff_mem.2 h6] at h5
   cases h5
  ·cases h
def GoodV (up:List NodV) (ls:List (List NodV)) (v:ViewV):Prop:=(∀p∈v.2,GoodP ls p)∧v.2.length≤ls.length∧(v.1≠0→inW up v.1)
def potV (up:List NodV) (ls:List (List NodV)) (v:ViewV):Nat:=if v.1=0 then 1+(v.2.map (fun p=>wP ls p - 1)).sum else 73*wt (upT up) v.1
theorem sum_sub {α : Type} (f : α → Nat) : ∀ (l : List α), l ≠ [] → (∀ x ∈ l, 1 ≤ f x) → 1 + (l.map (fun x => f x - 1)).sum ≤ (l.map f).sum
 | [],h,_=>absurd rfl h
 | [x],_,h=>by have:=h x (by simp);simp;omega
 | x::y::r,_,h=>by
  have h1:=sum_sub f (y::r) (by simp) (fun z hz=>h z (List.mem_cons_of_mem _ hz))
  have h2:=h x (by simp)
  rw [List.map_cons,List.sum_cons,List.map_cons,List.sum_cons]
  rw [List.map_cons,List.sum_cons] at h1
  simp only [List.map_cons,List.sum_cons] at h1 ⊢
  omega
theorem few_sum {ls : List (List NodV)} (hT : ∀ ns ∈ ls, TreeL ns) (hF : FewL ls) : ∀ (l : List (Int × Int)), (∀ p ∈ l, GoodP ls p) → (l.map (fun p => wP ls p - 1)).sum ≤ 23 * l.length
 | [],_=>by simp
 | p::r,h=>by
  have h1:=few_sum hT hF r (fun q hq=>h q (List.mem_cons_of_mem _ hq))
  obtain ⟨g1,g2,g3⟩:=h p List.mem_cons_self
  obtain ⟨ht,hl⟩:=lay_tree hT hF g1 g2
  have h2:wP ls p≤24:=(tree_wt ht hl g3).2.1
  rw [List.map_cons,List.sum_cons,List.length_cons]
  omega
theorem next_good {up:List NodV} {ls:List (List NodV)} (hT:∀ns∈ls,TreeL ns) (hF:FewL ls) (hup:FewU up) {v:ViewV} (hv:GoodV up ls v) {x:List UInt8} (hx:x∈keptS up ls v) (hd:(stepV up ls v x).1=1) :
  GoodV up ls (stepV up ls v x).2.1∧potV up ls (stepV up ls v x).2.1≤73*optN (fun e=>wt (upT up) e.ino) (entU up v.1 x)+(v.2.map (fun p=>optN (fun e=>wP ls (p.1,e.ino)) (entP ls p x))).sum:=by
 have hk:=(List.mem_filter.1 hx).2
 have hlen:=stepV_len up ls v x
 have hlen2:(stepV up ls v x).2.1.2.length≤ls.length:=by have:=hv.2.1;omega
 unfold stepV at hd hlen2 ⊢
 cases hf:firstB up v.1 x with
 | none =>
  rw [hf] at hd hlen2
  simp only at hd hlen2 ⊢
  have hkd:=findL_kind hF x v.2 []
  unfold lowStep noStep at hd hlen2 ⊢
  by_cases h0:(findL ls x v.2 []).1=0
  ·rw [if_pos h0] at hd;cases hd
  ·rw [if_neg h0] at hd hlen2 ⊢
   by_cases h1:(findL ls x v.2 []).1=1
   ·rw [if_pos h1] at hd hlen2 ⊢
    obtain ⟨g1,g2⟩:=find_good hT hF x v.2 [] hv.1 (by simp) h1
    refine ⟨⟨g1,hlen2,fun h=>absurd rfl h⟩,?_⟩
    unfold potV
    rw [if_pos rfl]
    have h3:=sum_sub (wP ls) (findL ls x v.2 []).2 (hkd.1.1 (by rw [h1];decide)) (fun p _=>wt_pos p.2)
    simp only [List.map_nil,List.sum_nil,Nat.zero_add] at g2
    simp only
    omega
   ·rw [if_neg h1] at hd
    exact absurd hd h1
 | some e =>
  rw [hf] at hd hlen2
  simp only at hd hlen2 ⊢
  have hag:againS up v.1 x=false:=by simpa using hk
  have hv1:v.1≠0:=fun h0=>by
   obtain ⟨-,-,h3⟩:=firstB_use hf
   rw [h0] at h3
   unfold entB at h3
   rw [nodAt_out (by omega)] at h3
   simp [nod0] at h3
  unfold upStep noStep at hd hlen2 ⊢
  by_cases h1:(nodAt up e.ino).k=1
  ·rw [if_pos h1] at hd hlen2 ⊢
   have hE:entU up v.1 x=some e:=by unfold entU;rw [hf];simp only;rw [if_pos ⟨h1,hag⟩]
   have hin:=hv.2.2 hv1
   have hkid:=(entU_kids hin hE).1
   have hul:(upT up).length≤24:=by unfold upT;rw [prune_len];exact hup.1
   have hin2:inW up e.ino:=(upT_in up e.ino).1 ((tree_wt (upT_tree up) hul ((upT_in up v.1).2 hin)).2.2 e hkid)
   have he0:e.ino≠0:=fun h0=>by
    rw [h0,nodAt_out (by omega)] at h1
    simp [nod0] at h1
   refine ⟨⟨part_good hT hF e.ino x hv.1,hlen2,fun _=>hin2⟩,?_⟩
   unfold potV
   rw [if_neg he0,hE]
   simp only [optN]
   omega
  ·rw [if_neg h1] at hd
   by_cases h4:(nodAt up e.ino).k=4
   ·rw [if_pos h4] at hd;cases hd
   ·rw [if_neg h4] at hd
    exact absurd hd h1
theorem pot_next {up:List NodV} {ls:List (List NodV)} (hT:∀ns∈ls,TreeL ns) (hF:FewL ls) (hup:FewU up) {s:StopV} (hv:GoodV up ls s.1):1+((nextS up ls s).map (fun t=>potV up ls t.1)).sum≤potV up ls s.1:=by
 obtain ⟨xs,hxs⟩:∃xs,(keptS up ls s.1).filter (dirX up ls s.1)=xs:=⟨_,rfl⟩
 have hn:xs.Nodup:=by rw [←hxs];exact (keep_nodup up ls s.1).filter _
 have h1:((nextS up ls s).map (fun t=>potV up ls t.1)).sum≤(xs.map (fun x=>73*optN (fun e=>wt (upT up) e.ino) (entU up s.1.1 x)+(s.1.2.map (fun p=>optN (fun e=>wP ls (p.1,e.ino)) (entP ls p x))).sum)).sum:=by
  unfold nextS
  rw [hxs,List.map_map]
  refine sum_le fun x hx=>?_
  rw [←hxs,List.mem_filter] at hx
  exact (next_good hT hF hup hv hx.1 (by simpa [dirX] using hx.2)).2
 rw [sum_add,sum_mul,sum_swap] at h1
 have h2:(s.1.2.map (fun p=>(xs.map (fun x=>optN (fun e=>wP ls (p.1,e.ino)) (entP ls p x))).sum)).sum≤(s.1.2.map (fun p=>wP ls p - 1)).sum:=sum_le fun p hp=>low_sum hT hF (hv.1 p hp) hn
 by_cases h0:s.1.1=0
 ·have h3:(xs.map (fun x=>optN (fun e=>wt (upT up) e.ino) (entU up s.1.1 x))).sum≤(([]:List EntV).map (fun e=>wt (upT up) e.ino)).sum:=sum_inj (fun e=>wt (upT up) e.ino) (entU up s.1.1) xs [] hn (fun x _ e he=>by
   exfalso
   unfold entU firstB entB at he
   rw [h0,nodAt_out (i:=0) (by omega)] at he
   simp [nod0] at he)
  unfold potV at h1 ⊢
  rw [if_pos h0]
  simp only [List.map_nil,List.sum_nil] at h3
  omega
 ·have hin:=hv.2.2 h0
  have hul:(upT up).length≤24:=by unfold upT;rw [prune_len];exact hup.1
  have h3:=sum_inj (fun e=>wt (upT up) e.ino) (entU up s.1.1) xs (kidsW (upT up) s.1.1) hn (fun x _ e he=>entU_kids hin he)
  have h4:=(tree_wt (upT_tree up) hul ((upT_in up s.1.1).2 hin)).1
  have h5:=few_sum hT hF s.1.2 hv.1
  have h6:=hv.2.1
  have h7:=hF.1
  have h8:potV up ls s.1=73*wt (upT up) s.1.1:=by unfold potV;rw [if_neg h0]
  rw [h8,h4]
  omega
theorem root_good (up:List NodV) (ls:List (List NodV)):GoodV up ls (rootV up ls):=by
 refine ⟨?_,?_,?_⟩
 ·unfold rootV
  simp only
  split
  ·simp
  ·exact roots_all ls
 ·unfold rootV
  simp only
  split
  ·simp
  ·exact rootsL_len ls 0
 ·unfold rootV
  simp only
  split
  ·rename_i h;exact fun _=>in_root (by simpa [isDir] using h)
  ·exact fun h=>absurd rfl h
theorem root_pot {up:List NodV} {ls:List (List NodV)} (hT:∀ns∈ls,TreeL ns) (hF:FewL ls) (hup:FewU up):potV up ls (rootV up ls)≤1800:=by
 have hg:=root_good up ls
 unfold potV
 by_cases h0:(rootV up ls).1=0
 ·rw [if_pos h0]
  have h1:=few_sum hT hF _ hg.1
  have h2:=hg.2.1
  have h3:=hF.1
  omega
 ·rw [if_neg h0]
  have hul:(upT up).length≤24:=by unfold upT;rw [prune_len];exact hup.1
  have:=(tree_wt (upT_tree up) hul ((upT_in up _).2 (hg.2.2 h0))).2.1
  omega
theorem tour_pot {up : List NodV} {ls : List (List NodV)} (hT : ∀ ns ∈ ls, TreeL ns) (hF : FewL ls) (hup : FewU up) : ∀ k, (∀ s ∈ (tourS up ls k).1, GoodV up ls s.1) ∧ (k ≤ (tourS up ls k).1.length → k + (((tourS up ls k).1.drop k).map (fun s => potV up ls s.1)).sum ≤ 1800) ∧ (tourS up ls k).1.length ≤ 1800
 | 0=>by
  refine ⟨fun s hs=>?_,fun _=>?_,by simp [tourS]⟩
  ·simp only [tourS,List.mem_singleton] at hs
   rw [hs];exact root_good up ls
  ·have:=root_pot hT hF hup
   simpa [tourS] using this
 | k+1=>by
  obtain ⟨i1,i2,i3⟩:=tour_pot hT hF hup k
  cases hs:(tourS up ls k).1[k]? with
  | none =>
   have hk:(tourS up ls k).1.length≤k:=by simpa using hs
   rw [tour_end hk 1]
   exact ⟨i1,fun h=>by omega,i3⟩
  | some s =>
   have hlt:=(List.getElem?_eq_some_iff.1 hs).1
   have hsm:=i1 s (List.mem_of_getElem? hs)
   rw [tour_some hs]
   have hpot:=pot_next hT hF hup (s:=s) hsm
   have h4:=i2 (by omega)
   rw [List.drop_eq_getElem_cons hlt,(List.getElem?_eq_some_iff.1 hs).2,List.map_cons,List.sum_cons] at h4
   have h5:k+1+((((tourS up ls k).1++nextS up ls s).drop (k+1)).map (fun s=>potV up ls s.1)).sum≤1800:=by
    rw [List.drop_append_of_le_length (by omega),List.map_append,List.sum_append]
    omega
   have hgood:∀t∈(tourS up ls k).1++nextS up ls s,GoodV up ls t.1:=fun t ht=>by
    rcases List.mem_append.1 ht with ht|ht
    ·exact i1 t ht
    ·unfold nextS at ht
     obtain ⟨x,hx,rfl⟩:=List.mem_map.1 ht
     rw [List.mem_filter] at hx
     exact (next_good hT hF hup hsm hx.1 (by simpa [dirX] using hx.2)).1
   refine ⟨hgood,fun _=>h5,?_⟩
   have h6:(((tourS up ls k).1++nextS up ls s).drop (k+1)).length≤((((tourS up ls k).1++nextS up ls s).drop (k+1)).map (fun s=>potV up ls s.1)).sum:=by
    have h7:∀l:List StopV,l.length≤(l.map (fun s=>potV up ls s.1)).sum:=by
     intro l
     induction l with
     | nil=>simp
     | cons a r ih =>
      rw [List.map_cons,List.sum_cons,List.length_cons]
      have:1≤potV up ls a.1:=by
       unfold potV
       have:=wt_pos (ns:=upT up) a.1.1
       split <;> omega
      omega
    exact h7 _
   rw [List.length_drop] at h6
   have h8:((tourS up ls k).1++nextS up ls s).length=((tourS up ls k).1++nextS up ls s).length:=rfl
   show ((tourS up ls k).1++nextS up ls s).length≤1800
   omega
end Go.Proofs.YtmhiohnkjpglfaaGreat

