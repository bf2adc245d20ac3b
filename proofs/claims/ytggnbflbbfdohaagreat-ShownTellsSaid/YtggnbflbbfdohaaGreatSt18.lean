import Derived.Test.YtggnbflbbfdohaaGreatSt2
import Derived.Test.YtggnbflbbfdohaaGreatSt17
import Derived.Test.YtggnbflbbfdohaaGreatSt3
import Derived.DeepKeys4
import Derived.Test.YtggnbflbbfdohaaGreatSt7
import Derived.Lib.CutLaws
import Derived.IntWalk
import Derived.Test.YtggnbflbbfdohaaGreatSt1
import Derived.Test.YtggnbflbbfdohaaGreatSt16

namespace Go.Proofs.YtggnbflbbfdohaaGreat
open Go.RowKit Plain

def againS (up:List NodV) (d:Int) (x:List UInt8):Bool:=match firstB up d x with
 | none=>false
 | some e=>(twiceS up (walkW up [1])).contains (d,e.slot)
def keptS (up:List NodV) (ls:List (List NodV)) (v:ViewV):List (List UInt8):=(namesV up ls v).filter (fun x=>!againS up v.1 x)
abbrev StopV:=ViewV×List (List UInt8)
abbrev ShnV:=List UInt8×Int×(Int×Int)
def pathC (l:List (List UInt8)):List UInt8:=l.flatMap (fun x=>47::x)
def toldX (up:List NodV) (ls:List (List NodV)) (s:StopV) (x:List UInt8):ShnV:=(pathC (s.2++[x]),(stepV up ls s.1 x).1,(stepV up ls s.1 x).2.2)
def nextX (up:List NodV) (ls:List (List NodV)) (s:StopV) (x:List UInt8):StopV:=((stepV up ls s.1 x).2.1,s.2++[x])
def dirX (up:List NodV) (ls:List (List NodV)) (v:ViewV) (x:List UInt8):Bool:=decide ((stepV up ls v x).1=1)
def toldS (up:List NodV) (ls:List (List NodV)) (s:StopV):List ShnV:=(keptS up ls s.1).map (toldX up ls s)
def nextS (up:List NodV) (ls:List (List NodV)) (s:StopV):List StopV:=((keptS up ls s.1).filter (dirX up ls s.1)).map (nextX up ls s)
def tourS (up : List NodV) (ls : List (List NodV)) : Nat → List StopV × List ShnV
 | 0=>([(rootV up ls,[])],[])
 | k+1=>match (tourS up ls k).1[k]? with
  | none=>tourS up ls k
  | some s=>((tourS up ls k).1++nextS up ls s,(tourS up ls k).2++toldS up ls s)
theorem tour_some {up:List NodV} {ls:List (List NodV)} {k:Nat} {s:StopV} (h:(tourS up ls k).1[k]?=some s):tourS up ls (k+1)=((tourS up ls k).1++nextS up ls s,(tourS up ls k).2++toldS up ls s):=by
 show (match (tourS up ls k).1[k]? with|none=>tourS up ls k|some s=>((tourS up ls k).1++nextS up ls s,(tourS up ls k).2++toldS up ls s))=_
 rw [h]
theorem tour_end {up : List NodV} {ls : List (List NodV)} {k : Nat} (h : (tourS up ls k).1.length ≤ k) : ∀ m, tourS up ls (k + m) = tourS up ls k
 | 0=>rfl
 | m+1=>by
  have ih:=tour_end h m
  show (match (tourS up ls (k+m)).1[k+m]? with|none=>tourS up ls (k+m)|some s=>((tourS up ls (k+m)).1++nextS up ls s,(tourS up ls (k+m)).2++toldS up ls s))=_
  rw [ih,List.getElem?_eq_none (by omega)]

def optN (f:EntV→Nat) (o:Option EntV):Nat:=match o with
 | none=>0
 | some e=>f e
theorem sum_erase (f : EntV → Nat) : ∀ {es : List EntV} {e : EntV}, e ∈ es → (es.map f).sum = f e + ((es.erase e).map f).sum
 | [],_,h=>absurd h (by simp)
 | a::r,e,h=>by
  by_cases hae:a=e
  ·subst hae
   rw [List.erase_cons_head,List.map_cons,List.sum_cons]
  ·rcases List.mem_cons.1 h with h|h
   ·exact absurd h.symm hae
   ·rw [List.erase_cons_tail (by simpa using hae),List.map_cons,List.sum_cons,List.map_cons,List.sum_cons,sum_erase f h]
    omega
theorem sum_inj (f : EntV → Nat) (g : List UInt8 → Option EntV) : ∀ (xs : List (List UInt8)) (es : List EntV), xs.Nodup → (∀ x ∈ xs, ∀ e, g x = some e → e ∈ es ∧ e.name = x) → (xs.map (fun x => optN f (g x))).sum ≤ (es.map f).sum
 | [],_,_,_=>by simp
 | x::r,es,hn,h=>by
  rw [List.nodup_cons] at hn;rw [List.map_cons,List.sum_cons]
  cases hg:g x with
  | none =>
   have:=sum_inj f g r es hn.2 (fun y hy=>h y (List.mem_cons_of_mem _ hy))
   show 0+_≤_
   omega
  | some e =>
   obtain ⟨h1,h2⟩:=h x List.mem_cons_self e hg
   have:=sum_inj f g r (es.erase e) hn.2 (fun y hy e' he'=>by
    obtain ⟨h3,h4⟩:=h y (List.mem_cons_of_mem _ hy) e' he';refine ⟨(List.mem_erase_of_ne fun q=>hn.1 ?_).2 h3,h4⟩;rw [←h2,←q,h4]
    exact hy)
   rw [sum_erase f h1]
   show f e+_≤_
   omega
theorem sum_swap {α β : Type} (f : α → β → Nat) : ∀ (l : List α) (k : List β), (l.map (fun x => (k.map (fun y => f x y)).sum)).sum = (k.map (fun y => (l.map (fun x => f x y)).sum)).sum
 | [],k=>by
  induction k with
  | nil=>rfl
  | cons y r ih=>simpa using ih
 | x::r,k=>by
  rw [List.map_cons,List.sum_cons,sum_swap f r k]
  induction k with
  | nil=>rfl
  | cons y k ih=>simp only [List.map_cons,List.sum_cons] at ih ⊢;omega
theorem sum_add {α : Type} (f g : α → Nat) : ∀ (l : List α), (l.map (fun x => f x + g x)).sum = (l.map f).sum + (l.map g).sum
 | []=>rfl
 | x::r=>by simp only [List.map_cons,List.sum_cons,sum_add f g r];omega
theorem sum_mul {α : Type} (c : Nat) (f : α → Nat) : ∀ (l : List α), (l.map (fun x => c * f x)).sum = c * (l.map f).sum
 | []=>rfl
 | x::r=>by simp only [List.map_cons,List.sum_cons,sum_mul c f r,Nat.mul_add]
theorem rising_nodup {l:List (List UInt8)} (h:Rising l):l.Nodup:=List.Pairwise.imp (fun {a b} hab e=>by subst e;rw [less_irrefl] at hab;cases hab) h
theorem names_nodup (up:List NodV) (ls:List (List NodV)) (v:ViewV):(namesV up ls v).Nodup:=(rising_nodup (sortS_rising (allV up ls v)).1).filter _
theorem keep_nodup (up:List NodV) (ls:List (List NodV)) (v:ViewV):(keptS up ls v).Nodup:=(names_nodup up ls v).filter _
def GoodP (ls:List (List NodV)) (p:Int×Int):Prop:=1≤p.1∧p.1≤(ls.length:Int)∧inW (layL ls p.1) p.2
def wP (ls:List (List NodV)) (p:Int×Int):Nat:=wt (layL ls p.1) p.2
def entP (ls:List (List NodV)) (p:Int×Int) (x:List UInt8):Option EntV:=match firstB (layL ls p.1) p.2 x with
 | none=>none
 | some e=>if (nodAt (layL ls p.1) e.ino).k=1 then some e else none
theorem ent_kids {ns:List NodV} {i:Int} {x:List UInt8} {e:EntV} (h:firstB ns i x=some e) (hk:(nodAt ns e.ino).k=1):e∈kidsW ns i∧e.name=x:=by
 obtain ⟨-,h2,h3⟩:=firstB_use h;refine ⟨?_,h2⟩;unfold entB at h3
 split at h3
 ·exact List.mem_filter.2 ⟨h3,by simpa [isDir] using hk⟩
 ·cases h3
theorem entP_kids {ls:List (List NodV)} {p:Int×Int} {x:List UInt8} {e:EntV} (h:entP ls p x=some e):e∈kidsW (layL ls p.1) p.2∧e.name=x:=by
 unfold entP at h
 cases hf:firstB (layL ls p.1) p.2 x with
 | none=>rw [hf] at h;cases h
 | some e' =>
  rw [hf] at h;simp only at h
  split at h
  ·rename_i hk
   cases h
   exact ent_kids hf hk
  ·cases h
theorem lay_tree {ls:List (List NodV)} (hT:∀ns∈ls,TreeL ns) (hF:FewL ls) {la:Int} (h1:1≤la) (h2:la≤(ls.length:Int)):TreeL (layL ls la)∧(layL ls la).length≤24:=by
 refine ⟨?_,(lay_few hF la).1⟩;unfold layL;rw [if_pos ⟨h1,h2⟩]
 have h3:(la - 1).toNat < ls.length:=by omega
 rw [List.getElem?_eq_getElem h3];exact hT _ (List.getElem_mem h3)
theorem low_sum {ls:List (List NodV)} (hT:∀ns∈ls,TreeL ns) (hF:FewL ls) {p:Int×Int} (hp:GoodP ls p) {xs:List (List UInt8)} (hn:xs.Nodup):(xs.map (fun x=>optN (fun e=>wP ls (p.1,e.ino)) (entP ls p x))).sum≤wP ls p - 1:=by
 obtain ⟨h1,h2,h3⟩:=hp;obtain ⟨ht,hl⟩:=lay_tree hT hF h1 h2;have h4:=(tree_wt ht hl h3).1;have h5:=sum_inj (fun e=>wP ls (p.1,e.ino)) (entP ls p) xs (kidsW (layL ls p.1) p.2) hn (fun x _ e he=>entP_kids he);have h6:wP ls p=1+((kidsW (layL ls p.1) p.2).map (fun e=>wP ls (p.1,e.ino))).sum:=h4;omega
theorem good_kid {ls:List (List NodV)} (hT:∀ns∈ls,TreeL ns) (hF:FewL ls) {p c:Int×Int} {x:List UInt8} (hp:GoodP ls p) (h:firstL ls p x=some c) (hk:(lowAt ls c.1 c.2).k=1):GoodP ls c∧∃e,entP ls p x=some e∧c=(p.1,e.ino):=by
 rw [first_lay,Option.map_eq_some_iff] at h;obtain ⟨e,he,rfl⟩:=h
 have hk2:(nodAt (layL ls p.1) e.ino).k=1:=by rw [lay_at];exact hk
 obtain ⟨h1,h2,h3⟩:=hp;obtain ⟨ht,hl⟩:=lay_tree hT hF h1 h2;refine ⟨⟨h1,h2,(tree_wt ht hl h3).2.2 e (ent_kids he hk2).1⟩,e,?_,rfl⟩;unfold entP;rw [he];simp only;rw [if_pos hk2]
theorem find_good {ls : List (List NodV)} (hT : ∀ ns ∈ ls, TreeL ns) (hF : FewL ls) (x : List UInt8) : ∀ (l acc : List (Int × Int)), (∀ p ∈ l, GoodP ls p) → (∀ p ∈ acc, GoodP ls p) → (findL ls x l acc).1 = 1 → (∀ p ∈ (findL ls x l acc).2, GoodP ls p) ∧ ((findL ls x l acc).2.map (wP ls)).sum ≤ (acc.map (wP ls)).sum + (l.map (fun p => optN (fun e => wP ls (p.1, e.ino)) (entP ls p x))).sum
 | [],acc,_,ha,h=>by
  unfold findL at h ⊢
  split
  ·rename_i h0;rw [if_pos h0] at h;cases h
  ·exact ⟨ha,by simp⟩
 | p::r,acc,hl,ha,h=>by
  have hp:=hl p List.mem_cons_self;have hr:=fun q hq=>hl q (List.mem_cons_of_mem _ hq);unfold findL at h ⊢;rw [List.map_cons,List.sum_cons]
  cases hx:firstL ls p x with
  | none =>
   rw [hx] at h;obtain ⟨i1,i2⟩:=find_good hT hF x r acc hr ha h;exact ⟨i1,by simp only;omega⟩
  | some c =>
   rw [hx] at h;simp only at h ⊢
   by_cases hk:(lowAt ls c.1 c.2).k=1
   ·rw [if_pos hk] at h ⊢
    obtain ⟨hg,e,he,hc⟩:=good_kid hT hF hp hx hk
    have ha2:∀q∈acc++[c],GoodP ls q:=fun q hq=>by
     rcases List.mem_append.1 hq with hq|hq
     ·exact ha q hq
     ·rw [List.mem_singleton] at hq;rw [hq];exact hg
    have hs:((acc++[c]).map (wP ls)).sum=(acc.map (wP ls)).sum+optN (fun e=>wP ls (p.1,e.ino)) (entP ls p x):=by
     rw [he,hc,List.map_append,List.sum_append];simp [optN]
    by_cases ho:opq (lowAt ls c.1 c.2)=true
    ·rw [if_pos ho] at h ⊢
     exact ⟨ha2,by rw [hs];omega⟩
    ·rw [if_neg ho] at h ⊢
     obtain ⟨i1,i2⟩:=find_good hT hF x r (acc++[c]) hr ha2 h;rw [hs] at i2;exact ⟨i1,by omega⟩
   ·rw [if_neg hk] at h ⊢
    by_cases h0:acc≠[]
    ·rw [if_pos h0]
     exact ⟨ha,by simp only;omega⟩
    ·rw [if_neg h0] at h
     exfalso
     split at h
     ·cases h
     ·exact hk h
theorem roots_good (ls : List (List NodV)) : ∀ (r : List (List NodV)) (j : Nat), (∀ q, ls[j + q]? = r[q]?) → ∀ p ∈ rootsL r j, GoodP ls p
 | [],_,_,p,h=>by simp [rootsL] at h
 | ns::r,j,hj,p,h=>by
  have h0:ls[j]?=some ns:=by simpa using hj 0
  have hlt:=(List.getElem?_eq_some_iff.1 h0).1
  have hg:(nodAt ns 1).k=1→GoodP ls ((j:Int)+1,1):=fun hk=>by
   refine ⟨by simp only;omega,by simp only;omega,?_⟩
   have:layL ls ((j:Int)+1)=ns:=by
    unfold layL;rw [if_pos ⟨by omega,by omega⟩,show ((j:Int)+1 - 1).toNat=j by omega,h0]
    rfl
   simp only [this];exact in_root (by simpa [isDir] using hk)
  have hr:=roots_good ls r (j+1) (fun q=>by
   have:=hj (q+1)
   rw [show j+(q+1)=j+1+q by omega] at this
   simpa using this)
  unfold rootsL at h
  split at h
  ·rename_i hk
   split at h
   ·rw [List.mem_singleton] at h
    rw [h];exact hg hk
   ·rcases List.mem_cons.1 h with h|h
    ·rw [h];exact hg hk
    ·exact hr p h
  ·exact hr p h
theorem look_good {ls : List (List NodV)} (hT : ∀ ns ∈ ls, TreeL ns) (hF : FewL ls) : ∀ (xs : List (List UInt8)) (l : List (Int × Int)), (∀ p ∈ l, GoodP ls p) → ∀ p ∈ (lookL ls l xs).getD [], GoodP ls p
 | [],l,h=>h
 | x::r,l,h=>by
  unfold lookL
  split
  ·rename_i hk
   exact look_good hT hF r _ (find_good hT hF x l [] h (by simp) hk).1
  ·simp
theorem ben_good {ls:List (List NodV)} (hT:∀ns∈ls,TreeL ns) (hF:FewL ls) {l:List (Int×Int)} (x:List UInt8) (h:∀p∈l,GoodP ls p):∀p∈benV ls l x,GoodP ls p:=by
 unfold benV
 split
 ·rename_i hk
  exact (find_good hT hF x l [] h (by simp) hk).1
 ·simp
theorem roots_all (ls:List (List NodV)):∀p∈rootsL ls 0,GoodP ls p:=roots_good ls ls 0 (fun q=>by rw [Nat.zero_add])
theorem part_good {up:List NodV} {ls:List (List NodV)} (hT:∀ns∈ls,TreeL ns) (hF:FewL ls) {l:List (Int×Int)} (i:Int) (x:List UInt8) (h:∀p∈l,GoodP ls p):∀p∈partV up ls l i x,GoodP ls p:=by
 unfold partV redV
 split
 ·split
  ·simp
  ·split
   ·split
    ·split
     ·exact look_good hT hF _ _ (roots_all ls)
     ·exact ben_good hT hF _ h
    ·simp
   ·exact ben_good hT hF _ h
 ·simp

def upT (up:List NodV):List NodV:=pruneW up (walkW up [1])
theorem upT_tree (up:List NodV):TreeL (upT up):=by unfold TreeL upT;rw [prune_walk]
theorem upT_in (up:List NodV) (i:Int):inW (upT up) i↔inW up i:=by unfold inW upT;rw [prune_walk]
theorem upT_kids {up:List NodV} {i:Int} {e:EntV} {k:Nat} (hi:inW up i) (he:(nodAt up i).ents[k]?=some e) (hd:isDir up e.ino=true) (ht:(i,k)∉(walkW up [1]).2):e∈kidsW (upT up) i:=by
 obtain ⟨y,hy,hyi⟩:=hi
 have hr:reachW up (walkW up [1]).1 i=true:=by rw [←hyi];exact reach_way hy
 refine List.mem_filter.2 ⟨?_,?_⟩
 ·unfold upT
  rw [prune_at];unfold pruneN;rw [if_pos hr];exact keep_mem he ht
 ·unfold upT
  rw [prune_dir,hd]
  have:reachW up (walkW up [1]).1 e.ino=true:=reach_ent hy (by rw [hyi];exact List.mem_of_getElem? he)
  simp [this]
def entU (up:List NodV) (d:Int) (x:List UInt8):Option EntV:=match firstB up d x with
 | none=>none
 | some e=>if (nodAt up e.ino).k=1∧againS up d x=false then some e else none
theorem entU_kids {up:List NodV} {d:Int} {x:List UInt8} {e:EntV} (hd:inW up d) (h:entU up d x=some e):e∈kidsW (upT up) d∧e.name=x:=by
 unfold entU at h
 cases hf:firstB up d x with
 | none=>rw [hf] at h;cases h
 | some e' =>
  rw [hf] at h;simp only at h
  split at h
  ·rename_i hk
   cases h
   obtain ⟨-,h2,h3⟩:=firstB_use hf;refine ⟨?_,h2⟩
   have h4:e∈(nodAt up d).ents:=by
    unfold entB at h3
    split at h3
    ·exact h3
    ·cases h3
   obtain ⟨k,hkl,hke⟩:=List.mem_iff_getElem.1 h4
   have he:(nodAt up d).ents[k]?=some e:=by rw [List.getElem?_eq_getElem hkl,hke]
   refine upT_kids hd he (by simpa [isDir] using hk.1) fun hm=>?_;have h5:=hk.2;unfold againS at h5;rw [hf] at h5;have h6:(d,e.slot)∈twiceS up (walkW up [1]):=List.mem_map.2 ⟨(d,k),hm,by unfold slotQ;simp only [he,Option.getD_some]⟩;simp only at h5;rw [List.contains_iff_mem.2 h6] at h5
   cases h5
  ·cases h
def GoodV (up:List NodV) (ls:List (List NodV)) (v:ViewV):Prop:=(∀p∈v.2,GoodP ls p)∧v.2.length≤ls.length∧(v.1≠0→inW up v.1)
def potV (up:List NodV) (ls:List (List NodV)) (v:ViewV):Nat:=if v.1=0 then 1+(v.2.map (fun p=>wP ls p - 1)).sum else 73*wt (upT up) v.1
theorem sum_sub {α : Type} (f : α → Nat) : ∀ (l : List α), l ≠ [] → (∀ x ∈ l, 1 ≤ f x) → 1 + (l.map (fun x => f x - 1)).sum ≤ (l.map f).sum
 | [],h,_=>absurd rfl h
 | [x],_,h=>by have:=h x (by simp);simp;omega
 | x::y::r,_,h=>by
  have h1:=sum_sub f (y::r) (by simp) (fun z hz=>h z (List.mem_cons_of_mem _ hz));have h2:=h x (by simp);rw [List.map_cons,List.sum_cons,List.map_cons,List.sum_cons];rw [List.map_cons,List.sum_cons] at h1;simp only [List.map_cons,List.sum_cons] at h1 ⊢;omega
theorem few_sum {ls : List (List NodV)} (hT : ∀ ns ∈ ls, TreeL ns) (hF : FewL ls) : ∀ (l : List (Int × Int)), (∀ p ∈ l, GoodP ls p) → (l.map (fun p => wP ls p - 1)).sum ≤ 23 * l.length
 | [],_=>by simp
 | p::r,h=>by
  have h1:=few_sum hT hF r (fun q hq=>h q (List.mem_cons_of_mem _ hq));obtain ⟨g1,g2,g3⟩:=h p List.mem_cons_self;obtain ⟨ht,hl⟩:=lay_tree hT hF g1 g2;have h2:wP ls p≤24:=(tree_wt ht hl g3).2.1;rw [List.map_cons,List.sum_cons,List.length_cons];omega
theorem next_good {up:List NodV} {ls:List (List NodV)} (hT:∀ns∈ls,TreeL ns) (hF:FewL ls) (hup:FewU up) {v:ViewV} (hv:GoodV up ls v) {x:List UInt8} (hx:x∈keptS up ls v) (hd:(stepV up ls v x).1=1) :
  GoodV up ls (stepV up ls v x).2.1∧potV up ls (stepV up ls v x).2.1≤73*optN (fun e=>wt (upT up) e.ino) (entU up v.1 x)+(v.2.map (fun p=>optN (fun e=>wP ls (p.1,e.ino)) (entP ls p x))).sum:=by
 have hk:=(List.mem_filter.1 hx).2;have hlen:=stepV_len up ls v x
 have hlen2:(stepV up ls v x).2.1.2.length≤ls.length:=by have:=hv.2.1;omega
 unfold stepV at hd hlen2 ⊢
 cases hf:firstB up v.1 x with
 | none =>
  rw [hf] at hd hlen2;simp only at hd hlen2 ⊢;have hkd:=findL_kind hF x v.2 [];unfold lowStep noStep at hd hlen2 ⊢
  by_cases h0:(findL ls x v.2 []).1=0
  ·rw [if_pos h0] at hd;cases hd
  ·rw [if_neg h0] at hd hlen2 ⊢
   by_cases h1:(findL ls x v.2 []).1=1
   ·rw [if_pos h1] at hd hlen2 ⊢
    obtain ⟨g1,g2⟩:=find_good hT hF x v.2 [] hv.1 (by simp) h1;refine ⟨⟨g1,hlen2,fun h=>absurd rfl h⟩,?_⟩;unfold potV;rw [if_pos rfl];have h3:=sum_sub (wP ls) (findL ls x v.2 []).2 (hkd.1.1 (by rw [h1];decide)) (fun p _=>wt_pos p.2);simp only [List.map_nil,List.sum_nil,Nat.zero_add] at g2;simp only;omega
   ·rw [if_neg h1] at hd
    exact absurd hd h1
 | some e =>
  rw [hf] at hd hlen2;simp only at hd hlen2 ⊢
  have hag:againS up v.1 x=false:=by simpa using hk
  have hv1:v.1≠0:=fun h0=>by
   obtain ⟨-,-,h3⟩:=firstB_use hf;rw [h0] at h3;unfold entB at h3;rw [nodAt_out (by omega)] at h3;simp [nod0] at h3
  unfold upStep noStep at hd hlen2 ⊢
  by_cases h1:(nodAt up e.ino).k=1
  ·rw [if_pos h1] at hd hlen2 ⊢
   have hE:entU up v.1 x=some e:=by unfold entU;rw [hf];simp only;rw [if_pos ⟨h1,hag⟩]
   have hin:=hv.2.2 hv1;have hkid:=(entU_kids hin hE).1
   have hul:(upT up).length≤24:=by unfold upT;rw [prune_len];exact hup.1
   have hin2:inW up e.ino:=(upT_in up e.ino).1 ((tree_wt (upT_tree up) hul ((upT_in up v.1).2 hin)).2.2 e hkid)
   have he0:e.ino≠0:=fun h0=>by
    rw [h0,nodAt_out (by omega)] at h1;simp [nod0] at h1
   refine ⟨⟨part_good hT hF e.ino x hv.1,hlen2,fun _=>hin2⟩,?_⟩;unfold potV;rw [if_neg he0,hE];simp only [optN];omega
  ·rw [if_neg h1] at hd
   by_cases h4:(nodAt up e.ino).k=4
   ·rw [if_pos h4] at hd;cases hd
   ·rw [if_neg h4] at hd
    exact absurd hd h1
theorem pot_next {up:List NodV} {ls:List (List NodV)} (hT:∀ns∈ls,TreeL ns) (hF:FewL ls) (hup:FewU up) {s:StopV} (hv:GoodV up ls s.1):1+((nextS up ls s).map (fun t=>potV up ls t.1)).sum≤potV up ls s.1:=by
 obtain ⟨xs,hxs⟩:∃xs,(keptS up ls s.1).filter (dirX up ls s.1)=xs:=⟨_,rfl⟩
 have hn:xs.Nodup:=by rw [←hxs];exact (keep_nodup up ls s.1).filter _
 have h1:((nextS up ls s).map (fun t=>potV up ls t.1)).sum≤(xs.map (fun x=>73*optN (fun e=>wt (upT up) e.ino) (entU up s.1.1 x)+(s.1.2.map (fun p=>optN (fun e=>wP ls (p.1,e.ino)) (entP ls p x))).sum)).sum:=by
  unfold nextS;rw [hxs,List.map_map];refine sum_le fun x hx=>?_;rw [←hxs,List.mem_filter] at hx;exact (next_good hT hF hup hv hx.1 (by simpa [dirX] using hx.2)).2
 rw [sum_add,sum_mul,sum_swap] at h1;have h2:(s.1.2.map (fun p=>(xs.map (fun x=>optN (fun e=>wP ls (p.1,e.ino)) (entP ls p x))).sum)).sum≤(s.1.2.map (fun p=>wP ls p - 1)).sum:=sum_le fun p hp=>low_sum hT hF (hv.1 p hp) hn
 by_cases h0:s.1.1=0
 ·have h3:(xs.map (fun x=>optN (fun e=>wt (upT up) e.ino) (entU up s.1.1 x))).sum≤(([]:List EntV).map (fun e=>wt (upT up) e.ino)).sum:=sum_inj (fun e=>wt (upT up) e.ino) (entU up s.1.1) xs [] hn (fun x _ e he=>by
   exfalso
   unfold entU firstB entB at he;rw [h0,nodAt_out (i:=0) (by omega)] at he
   simp [nod0] at he)
  unfold potV at h1 ⊢;rw [if_pos h0];simp only [List.map_nil,List.sum_nil] at h3;omega
 ·have hin:=hv.2.2 h0
  have hul:(upT up).length≤24:=by unfold upT;rw [prune_len];exact hup.1
  have h3:=sum_inj (fun e=>wt (upT up) e.ino) (entU up s.1.1) xs (kidsW (upT up) s.1.1) hn (fun x _ e he=>entU_kids hin he);have h4:=(tree_wt (upT_tree up) hul ((upT_in up s.1.1).2 hin)).1;have h5:=few_sum hT hF s.1.2 hv.1;have h6:=hv.2.1;have h7:=hF.1
  have h8:potV up ls s.1=73*wt (upT up) s.1.1:=by unfold potV;rw [if_neg h0]
  rw [h8,h4];omega
theorem root_good (up:List NodV) (ls:List (List NodV)):GoodV up ls (rootV up ls):=by
 refine ⟨?_,?_,?_⟩
 ·unfold rootV
  simp only
  split
  ·simp
  ·exact roots_all ls
 ·unfold rootV
  simp only
  split
  ·simp
  ·exact rootsL_len ls 0
 ·unfold rootV
  simp only
  split
  ·rename_i h;exact fun _=>in_root (by simpa [isDir] using h)
  ·exact fun h=>absurd rfl h
theorem root_pot {up:List NodV} {ls:List (List NodV)} (hT:∀ns∈ls,TreeL ns) (hF:FewL ls) (hup:FewU up):potV up ls (rootV up ls)≤1800:=by
 have hg:=root_good up ls;unfold potV
 by_cases h0:(rootV up ls).1=0
 ·rw [if_pos h0]
  have h1:=few_sum hT hF _ hg.1;have h2:=hg.2.1;have h3:=hF.1;omega
 ·rw [if_neg h0]
  have hul:(upT up).length≤24:=by unfold upT;rw [prune_len];exact hup.1
  have:=(tree_wt (upT_tree up) hul ((upT_in up _).2 (hg.2.2 h0))).2.1
  omega
theorem tour_pot {up : List NodV} {ls : List (List NodV)} (hT : ∀ ns ∈ ls, TreeL ns) (hF : FewL ls) (hup : FewU up) : ∀ k, (∀ s ∈ (tourS up ls k).1, GoodV up ls s.1) ∧ (k ≤ (tourS up ls k).1.length → k + (((tourS up ls k).1.drop k).map (fun s => potV up ls s.1)).sum ≤ 1800) ∧ (tourS up ls k).1.length ≤ 1800
 | 0=>by
  refine ⟨fun s hs=>?_,fun _=>?_,by simp [tourS]⟩
  ·simp only [tourS,List.mem_singleton] at hs
   rw [hs];exact root_good up ls
  ·have:=root_pot hT hF hup
   simpa [tourS] using this
 | k+1=>by
  obtain ⟨i1,i2,i3⟩:=tour_pot hT hF hup k
  cases hs:(tourS up ls k).1[k]? with
  | none =>
   have hk:(tourS up ls k).1.length≤k:=by simpa using hs
   rw [tour_end hk 1];exact ⟨i1,fun h=>by omega,i3⟩
  | some s =>
   have hlt:=(List.getElem?_eq_some_iff.1 hs).1;have hsm:=i1 s (List.mem_of_getElem? hs);rw [tour_some hs];have hpot:=pot_next hT hF hup (s:=s) hsm;have h4:=i2 (by omega);rw [List.drop_eq_getElem_cons hlt,(List.getElem?_eq_some_iff.1 hs).2,List.map_cons,List.sum_cons] at h4
   have h5:k+1+((((tourS up ls k).1++nextS up ls s).drop (k+1)).map (fun s=>potV up ls s.1)).sum≤1800:=by
    rw [List.drop_append_of_le_length (by omega),List.map_append,List.sum_append];omega
   have hgood:∀t∈(tourS up ls k).1++nextS up ls s,GoodV up ls t.1:=fun t ht=>by
    rcases List.mem_append.1 ht with ht|ht
    ·exact i1 t ht
    ·unfold nextS at ht
     obtain ⟨x,hx,rfl⟩:=List.mem_map.1 ht;rw [List.mem_filter] at hx;exact (next_good hT hF hup hsm hx.1 (by simpa [dirX] using hx.2)).1
   refine ⟨hgood,fun _=>h5,?_⟩
   have h6:(((tourS up ls k).1++nextS up ls s).drop (k+1)).length≤((((tourS up ls k).1++nextS up ls s).drop (k+1)).map (fun s=>potV up ls s.1)).sum:=by
    have h7:∀l:List StopV,l.length≤(l.map (fun s=>potV up ls s.1)).sum:=by
     intro l
     induction l with
     | nil=>simp
     | cons a r ih =>
      rw [List.map_cons,List.sum_cons,List.length_cons]
      have:1≤potV up ls a.1:=by
       unfold potV
       have:=wt_pos (ns:=upT up) a.1.1
       split <;> omega
      omega
    exact h7 _
   rw [List.length_drop] at h6;have h8:((tourS up ls k).1++nextS up ls s).length=((tourS up ls k).1++nextS up ls s).length:=rfl
   show ((tourS up ls k).1++nextS up ls s).length≤1800
   omega
end Go.Proofs.YtggnbflbbfdohaaGreat

namespace Go.Proofs.YtggnbflbbfdohaaGreat
open Go.RowKit Go.Shelf Plain Go.Maps

set_option maxRecDepth 100000 in
theorem p2nam_laid:laidOutB Tryz.prog=true:=by kernel_rfl
set_option maxRecDepth 100000 in
theorem p2namKey:Keyed Tryz.prog 99:=Keyed.of_law (deep_law_laid p2nam_laid (m:=4) (by omega) (of_decide_eq_true (by kernel_rfl)) (by kernel_rfl) (by kernel_rfl))
set_option maxRecDepth 100000 in
theorem p2nam_size1:decide (1≤Tryz.prog.types.size)=true:=by kernel_rfl
theorem p2namSize:∃k,Tryz.prog.types.size+1=k+1+1:=⟨Tryz.prog.types.size - 1,by have h:=of_decide_eq_true p2nam_size1;revert h;generalize Tryz.prog.types.size=z;intro h;omega⟩
set_option maxRecDepth 100000 in
theorem p2nam_cells:Tryz.prog.cellsOf 99=2:=by kernel_rfl
set_option maxRecDepth 100000 in
theorem p2nam_kt:Tryz.prog.keyType 99=true:=by kernel_rfl
set_option maxRecDepth 100000 in
theorem p2int_cells:Tryz.prog.cellsOf 3=1:=by kernel_rfl
set_option maxRecDepth 100000 in
set_option maxHeartbeats 800000 in
theorem p2nam_key {a b:Int} (ha:i64 a) (hb:i64 b):∃kl,keyOf Tryz.prog 99 (.agg #[.int .i64 a,.int .i64 b])=some kl:=by
 have h1:=i64_wf ha;have h2:=i64_wf hb;obtain ⟨k,hk⟩:=p2namSize;refine ⟨.string (keyBytes [.int .i64 a,.int .i64 b]),?_⟩;unfold keyOf;simp only [Tryz.underlying99]
 have hfm:Value.formed Tryz.prog 99 (Value.agg #[Value.int IntKind.i64 a,Value.int IntKind.i64 b])=true:=by
  simp only [Value.formed,Tryz.underlying99];rw [p2nam_cells]
  rfl
 rw [p2nam_kt,hfm,hk,show (Value.agg #[Value.int IntKind.i64 a,Value.int IntKind.i64 b]).cells.toList=[Value.int IntKind.i64 a,Value.int IntKind.i64 b] from rfl]
 have hk1:∀x:Int,(Lit.int IntKind.i64 x).wf=true→Tryz.prog.keyLits (k+1) 3 [Value.int IntKind.i64 x]=some [Lit.int IntKind.i64 x]:=by
  intro x hx;unfold Program.keyLits;simp only [Tryz.underlying3];rw [if_pos ⟨trivial,hx⟩]
 have hk2:Tryz.prog.keyLits (k+1+1) 99 [Value.int IntKind.i64 a,Value.int IntKind.i64 b]=some [Lit.int IntKind.i64 a,Lit.int IntKind.i64 b]:=by
  unfold Program.keyLits;simp only [Tryz.underlying99];rw [if_pos (by rw [p2nam_cells];rfl)];simp only [p2int_cells,show List.range 2=[0,1] from rfl,List.mapM_cons,List.mapM_nil,Nat.zero_mul,Nat.one_mul,List.drop_zero,List.drop_succ_cons,List.take_succ_cons,List.take_zero,hk1 a h1,hk1 b h2]
  rfl
 rw [hk2]
 rfl
def SetP (w:World) (b c:Nat) (f:Int×Int→Bool):Prop:=∃D:DataW Unit,w.ownsMap Tryz.prog 99 unitElem b c D∧∀x y kl,i64 x→i64 y→keyOf Tryz.prog 99 (.agg #[.int .i64 x,.int .i64 y])=some kl→Maps.has D kl=f (x,y)
section
variable {w w' : World} {b c : Nat} {f : Int × Int → Bool}
theorem SetP.made (w:World):SetP (w.alloc (.map #[] 0)) w.heap.size 0 (fun _=>false):=⟨.map [],World.ownsMap_made w _ _ _,fun _ _ _ _ _ _=>rfl⟩
theorem SetP.lt (h:SetP w b c f):b < w.heap.size:=by obtain ⟨D,h1,h2⟩:=h;exact h1.lt
theorem SetP.kept {row:Option Nat} (h:SetP w b c f) (hg:w.grownBy w' row) (hne:some b≠row):SetP w' b c f:=by obtain ⟨D,h1,h2⟩:=h;exact ⟨D,h1.kept hg hne,h2⟩
theorem SetP.on (h:SetP w b c f) (hb:Below w.heap.size w w'):SetP w' b c f:=h.kept (grown_below hb) (by simp)
theorem SetP.eq {g:Int×Int→Bool} (h:SetP w b c f) (e:f=g):SetP w b c g:=e ▸ h
theorem SetP.obj (h:SetP w b c f):∃o:Obj,w.heap[b]?=some o∧(∀x,o≠.deferred x)∧o.isCells=false:=by
 obtain ⟨D,⟨es,clock,h1,_⟩,h2⟩:=h;exact ⟨_,h1,(fun x e=>by cases e),rfl⟩
theorem SetP.look (h:SetP w b c f) {x y:Int} (hx:i64 x) (hy:i64 y):(Instr.lookup 83 (.map (some b)) (.agg #[.int .i64 x,.int .i64 y]) true).run Tryz.prog w=.ok (.tuple #[.agg #[],.bool (f (x,y))]) w:=by
 obtain ⟨D,h1,h2⟩:=h;obtain ⟨kl,hkl⟩:=p2nam_key hx hy;obtain ⟨v,ps,hrun,hv⟩:=h1.look_ok (t:=83) (e:=132) p2namKey Tryz.underlying83 (unit_zero w) unitElem_mk hkl;obtain ⟨rfl,-⟩:=unitElem_inv hv;rw [hrun,h2 x y kl hx hy hkl]
theorem SetP.put (h:SetP w b c f) {x y:Int} (hx:i64 x) (hy:i64 y) (hc:c < maxLen):∃w',(Instr.mapUpdate 83 (.map (some b)) (.agg #[.int .i64 x,.int .i64 y]) (.agg #[])).run Tryz.prog w=.ok () w'∧SetP w' b (c+1) (fun q=>f q||decide (q=(x,y)))∧w.grownBy w' (some b):=by
 obtain ⟨D,h1,h2⟩:=h;obtain ⟨kl,hkl⟩:=p2nam_key hx hy;obtain ⟨w',hrun,h3,h4⟩:=h1.update (t:=83) (e:=132) p2namKey Tryz.underlying83 hc hkl unitElem_mk;have hm:Maps.IsMap D:=h1.isMap;have hk:WideAt.IsKeyLit kl:=p2namKey.key hkl;refine ⟨w',hrun,⟨_,h3,fun a d kl' ha hd hkl'=>?_⟩,h4⟩
 by_cases e:(a,d)=(x,y)
 ·cases e
  rw [hkl] at hkl'
  cases hkl'
  rw [has_put_same hm hk];simp
 ·have hne:kl'≠kl:=fun e'=>e (by
   subst e'
   have:=p2namKey.inj hkl' hkl
   simpa using this)
  rw [has_put_other hne,h2 a d kl' ha hd hkl'];simp [e]
end
end Go.Proofs.YtggnbflbbfdohaaGreat

namespace Go.Proofs.YtggnbflbbfdohaaGreat
open Go.RowKit Plain

theorem index_no {l:List UInt8} (h:∀c∈l,c≠47):Lib.indexByte l 47 = -1:=by
 induction l with
 | nil=>rfl
 | cons x r ih =>
  have hx:(x==47)=false:=by simpa using h x List.mem_cons_self
  have hr:=ih (fun c hc=>h c (List.mem_cons_of_mem _ hc));unfold Lib.indexByte;rw [hx,hr]
  rfl
theorem index_yes {p q:List UInt8} (h:∀c∈p,c≠47):Lib.indexByte (p++47::q) 47=p.length:=by
 induction p with
 | nil=>rfl
 | cons x r ih =>
  have hx:(x==47)=false:=by simpa using h x List.mem_cons_self
  have hr:=ih (fun c hc=>h c (List.mem_cons_of_mem _ hc));rw [List.cons_append];unfold Lib.indexByte;rw [hx,hr]
  have:(((r.length:Nat):Int) == -1)=false:=by simp
  rw [this];simp

def CutRet (w:World) (p q:List UInt8) (b:Bool) (x:Ending) (w':World):Prop:=x=.returned (.tuple #[st p,st q,.bool b])∧∃n,w'=w.drewN n

set_option maxHeartbeats 400000 in
theorem CutL_no {l:List UInt8} (h:∀c∈l,c≠47) (w:World) :
  Calls Tryz.prog 163 #[st l,.string ⟨#[47]⟩] w (CutRet w l [] false):=by
 have hc:=fun (w:World)=>Tryz.stringslite_Index_one ⟨l.toArray⟩ 47 w;simp only [index_no h] at hc;have HC:=hide hc;clear hc h;unfold st
 go_enter Tryz.func163,Tryz.ntmps163
 go_wp2_with fail
 refine (HC.out _).mono ?_
 rintro e w' ⟨rfl,rfl⟩
 go_wp2_with fail
 go_ret3
 exact ⟨rfl,0,rfl⟩

set_option maxHeartbeats 400000 in
theorem CutL_yes {p q:List UInt8} (h:∀c∈p,c≠47) (w:World) (hn:(p++47::q).length≤140737488355328) :
  Calls Tryz.prog 163 #[st (p++47::q),.string ⟨#[47]⟩] w (CutRet w p q true):=by
 have hc:=fun (w:World)=>Tryz.stringslite_Index_one ⟨(p++47::q).toArray⟩ 47 w;simp only [index_yes h] at hc;have HC:=hide hc;obtain ⟨l,hl⟩:∃l,p++47::q=l:=⟨_,rfl⟩;rw [hl] at HC hn ⊢
 have hln:p.length+1≤l.length:=by rw [←hl];simp
 have HL:=hide hl;clear hc h hl;unfold st
 have c1:(0:Int)≤(p.length:Int):=by omega
 have c2:(p.length:Int)≤(l.length:Int):=by omega
 have c3:(0:Int)≤(p.length:Int)+1:=by omega
 have c4:(p.length:Int)+1≤(l.length:Int):=by omega
 have hw1:IntKind.i64.wrap ((p.length:Int)+1)=(p.length:Int)+1:=IntWalk.i64_in _ (by omega)
 have hw2:((p.length:Int)+1).toNat=p.length+1:=by omega
 go_enter Tryz.func163,Tryz.ntmps163
 go_wp2_with fail
 refine (HC.out _).mono ?_
 rintro e w' ⟨rfl,rfl⟩
 go_wp2_with fail
 go_region
 go_wp2
 go_ret3
 have hl:=HL.out
 have e1:({data:=l.toArray}:ByteArray).extract 0 p.length=⟨p.toArray⟩:=by rw [Lib.extract_eq,←hl];simp
 have e2:({data:=l.toArray}:ByteArray).extract (p.length+1) l.length=⟨q.toArray⟩:=by
  rw [Lib.extract_eq,←hl];simp;exact List.take_of_length_le (by omega)
 refine ⟨?_,1,rfl⟩
 show Ending.returned (.tuple #[.string (({data:=l.toArray}:ByteArray).extract 0 p.length),.string (({data:=l.toArray}:ByteArray).extract (p.length+1) l.length),.bool true])=_
 rw [e1,e2]
 rfl
theorem Cut_of {l p q:List UInt8} {b:Bool} (h:∀w:World,Calls Tryz.prog 163 #[st l,.string ⟨#[47]⟩] w (CutRet w p q b)) (w:World) :
  Calls Tryz.prog 152 #[st l,.string ⟨#[47]⟩] w (CutRet w p q b):=by
 have H:=hide h;clear h;unfold st
 go_enter Tryz.func152,Tryz.ntmps152
 go_wp2_with fail
 refine (H.out _).mono ?_
 rintro e w' ⟨rfl,n,rfl⟩
 go_wp2_with fail
 go_ret3
 exact ⟨rfl,n,rfl⟩
theorem Cut_no {l:List UInt8} (h:∀c∈l,c≠47) (w:World):Calls Tryz.prog 152 #[st l,.string ⟨#[47]⟩] w (CutRet w l [] false):=Cut_of (fun w=>CutL_no h w) w
theorem Cut_yes {p q:List UInt8} (h:∀c∈p,c≠47) (w:World) (hn:(p++47::q).length≤140737488355328):Calls Tryz.prog 152 #[st (p++47::q),.string ⟨#[47]⟩] w (CutRet w p q true):=Cut_of (fun w=>CutL_yes h w hn) w
end Go.Proofs.YtggnbflbbfdohaaGreat

namespace Go.Proofs.YtggnbflbbfdohaaGreat
open Go.RowKit Plain

def lettersL:List UInt8:=[97,98,99,100,101,102,103,104,105,106,107,108,109,110,111,112,113,114,115,116,117,118,119,120,121,122,48,49,50,51,52,53,54,55,56,57,46,95,45]
theorem letters_fin:∀x:Fin 256,decide (Lib.indexByte lettersL x.val.toUInt8 < 0)=!letB x.val:=by decide +kernel
theorem letters_any {x:Nat} (hx:x < 256):decide (Lib.indexByte lettersL ((x:Int).toNat.toUInt8) < 0)=!letB x:=by
 have:=letters_fin ⟨x,hx⟩
 simpa using this

set_option maxHeartbeats 400000 in
theorem Strange_any {x:Nat} (hx:x < 256) (w:World) :
  Calls Tryz.prog 124 #[.int .u8 x] w fun e w'=>e=.returned (.bool (!letB x))∧w=w':=by
 obtain ⟨r,hr⟩:∃r,Lib.indexByte lettersL ((x:Int).toNat.toUInt8)=r:=⟨_,rfl⟩;have hl:=letters_any hx;rw [hr] at hl;have HL:=hide hl;have hc:=Tryz.strings_IndexByte ⟨lettersL.toArray⟩ x w;rw [show (⟨lettersL.toArray⟩:ByteArray).data.toList=lettersL from rfl,hr] at hc;have HC:=hide hc;clear hl hr hc
 go_enter Tryz.func124,Tryz.ntmps124
 go_wp2_with fail
 refine HC.out.mono ?_
 rintro e w' ⟨rfl,rfl⟩
 go_wp2_with fail
 go_ret
 exact ⟨ret_bool HL.out,rfl⟩
abbrev strangeV:Value:=.func (.func 124) #[] #[]
def Found (w:World) (b:Bool) (e:Ending) (w':World):Prop:=∃r:Int,e=.returned (.int .i64 r)∧decide (0≤r)=!b∧w=w'

set_option maxHeartbeats 400000 in
theorem IndexFunc_b {A:Option Addr} {m c B:Nat} {l:List UInt8} {b:Bool} (w:World) (ha:Bs w B A m l) (hm:m≤140737488355328) (h:(l.all fun x=>letB x.toNat)=b) :
  Calls Tryz.prog 150 #[.slice A m c,strangeV] w (Found w b):=by
 have HB:=hide h;have HA:=hide ha;have hl:=ha.len;clear h ha
 go_enter Tryz.func150,Tryz.ntmps150
 go_wp2_with fail
 go_loop [8] (fun i=>∃k:Nat,k≤m∧i=.int .i64 k∧((l.take k).all fun x=>letB x.toNat)=true) (fun i=>m - (intOf i).toNat)
 case atStart=>exact ⟨0,Nat.zero_le _,rfl,rfl⟩
 case round =>
  obtain ⟨k,hk,rfl,hall⟩:=hrel;have HALL:=hide hall;clear hall
  by_cases hlt:k < m
  ·obtain ⟨bb,o,rfl,_,hcell⟩:=HA.out.2 (by omega)
   have hkl:k < l.length:=by omega
   have hx:=hcell k l[k] (List.getElem?_eq_getElem hkl);have hb:=l[k].toNat_lt;clear hcell;obtain ⟨x,hxe⟩:∃x:Nat,l[k].toNat=x:=⟨_,rfl⟩;simp only [bv,hxe] at hx;rw [hxe] at hb;have hts:=all_take_succ (p:=fun x=>letB x.toNat) hkl;have haf:=all_false (p:=fun x=>letB x.toNat) hkl;simp only [hxe] at hts haf;have HTS:=hide hts;have HAF:=hide haf;clear hts haf hxe
   cases hb2:letB x with
   | true =>
    have HB2:=hide hb2;clear hb2 hkl hl
    go_wp2_with fail
    refine (Strange_any hb _).mono ?_;rw [HB2.out]
    rintro e w' ⟨rfl,rfl⟩
    go_wp2_with fail
    go_round
    case rel=>exact ⟨k+1,by omega,by go_num,by rw [HTS.out,HALL.out,HB2.out];rfl⟩
    case measure=>simp [intOf];omega
   | false =>
    have hbf:b=false:=by rw [←HB.out];exact HAF.out hb2
    have HB2:=hide hb2;have HBF:=hide hbf;clear hb2 hbf hkl hl
    go_wp2_with fail
    refine (Strange_any hb _).mono ?_;rw [HB2.out]
    rintro e w' ⟨rfl,rfl⟩
    go_wp2_with fail
    go_ret
    rw [HBF.out];exact ⟨_,rfl,by simp,rfl⟩
  ·have hbt:b=true:=by
    rw [←HB.out]
    have:=HALL.out
    rwa [List.take_of_length_le (by omega)] at this
   have HBT:=hide hbt;clear hbt hl
   go_wp2_with fail
   go_ret
   rw [HBT.out];exact ⟨_,rfl,by simp,rfl⟩

set_option maxHeartbeats 400000 in
theorem ContainsFunc_b {A:Option Addr} {m c B:Nat} {l:List UInt8} {b:Bool} (w:World) (ha:Bs w B A m l) (hm:m≤140737488355328) (h:(l.all fun x=>letB x.toNat)=b) :
  Calls Tryz.prog 126 #[.slice A m c,strangeV] w fun e w'=>e=.returned (.bool (!b))∧w=w':=by
 have HB:=hide h;have HA:=hide ha;clear h ha
 go_enter Tryz.func126,Tryz.ntmps126
 go_wp2_with fail
 refine (IndexFunc_b _ HA.out hm HB.out).mono ?_
 rintro e w' ⟨r,rfl,hr,rfl⟩
 have HR:=hide hr;clear hr
 go_wp2_with fail
 go_ret
 exact ⟨ret_bool HR.out,rfl⟩
end Go.Proofs.YtggnbflbbfdohaaGreat

namespace Go.Proofs.YtggnbflbbfdohaaGreat
open Go.RowKit Plain

set_option maxHeartbeats 400000 in
theorem NRight_any (l:List UInt8) (w:World) (hl:l.length≤140737488355328) :
  Calls Tryz.prog 92 #[st l] w (BoolB w (nameB l)):=by
 unfold st
 by_cases h1:l=[]
 ·subst h1
  go_enter Tryz.func92,Tryz.ntmps92
  go_wp2_with fail
  go_ret
  exact BoolB.of (below_self w)
 by_cases h2:12 < l.length
 ·have hr:nameB l=false:=by
   have:decide (1≤l.length∧l.length≤12)=false:=by simp;omega
   simp [nameB,this]
  rw [hr];clear hr
  have e1:¬l=[]:=h1
  have d1:(l==[])=false:=by simpa using h1
  have d2:decide ((12:Int) < (l.length:Int))=true:=by simp;omega
  clear h1
  go_enter Tryz.func92,Tryz.ntmps92
  go_wp2_with fail
  go_ret
  exact BoolB.of (below_self w)
 by_cases h3:l=[46]
 ·subst h3
  go_enter Tryz.func92,Tryz.ntmps92
  go_wp2_with fail
  go_ret
  exact BoolB.of (below_self w)
 by_cases h4:l=[46,46]
 ·subst h4
  go_enter Tryz.func92,Tryz.ntmps92
  go_wp2_with fail
  go_ret
  exact BoolB.of (below_self w)
 have d2:decide ((12:Int) < (l.length:Int))=false:=by simp;omega
 have d1:(l==[])=false:=by simpa using h1
 have d3:(l==[46])=false:=by simpa using h3
 have d4:(l==[46,46])=false:=by simpa using h4
 have hr:nameB l=l.all fun x=>letB x.toNat:=by
  have hpos:0 < l.length:=List.length_pos_iff.2 h1
  have:decide (1≤l.length∧l.length≤12)=true:=by simp;omega
  simp [nameB,this,d3,d4]
 obtain ⟨b,hb⟩:∃b,nameB l=b:=⟨_,rfl⟩;rw [hb];rw [hr] at hb;have HB:=hide hb;clear hr hb h1 h3 h4 h2
 have kc:=Lib.run_convert_string_bytes (P:=Tryz.prog) w 9 58 5 ⟨l.toArray⟩ Tryz.underlying9 Tryz.underlying58 Tryz.underlying5
 go_enter Tryz.func92,Tryz.ntmps92
 go_wp2_with fail
 clear kc;refine (ContainsFunc_b _ (Bs.bytesWorld w 5 l) hl HB.out).mono ?_
 rintro e w' ⟨rfl,rfl⟩
 go_wp2_with fail
 go_ret
 exact BoolB.eq (by simp) (below_bytesWorld _ _ _)
theorem NRight_b {l:List UInt8} {b:Bool} (h:nameB l=b) (w:World) (hl:l.length≤140737488355328) :
  Calls Tryz.prog 92 #[st l] w (BoolB w b):=by
 have:=NRight_any l w hl;rw [h] at this;exact this
end Go.Proofs.YtggnbflbbfdohaaGreat

namespace Go.Proofs.YtggnbflbbfdohaaGreat.Plain
theorem snoc_ind {α:Type} {P:List α→Prop} (h0:P []) (h1:∀l x,P l→P (l++[x])):∀l,P l:=by
  intro l;rw [←List.reverse_reverse l]
  generalize l.reverse=r
  induction r with
  | nil=>exact h0
  | cons x r ih=>rw [List.reverse_cons];exact h1 _ _ ih
theorem joinS_nil:joinS []=[47]:=rfl
theorem joinS_head (l:List (List UInt8)):∃b,joinS l=47::b:=by
  induction l using snoc_ind with
  | h0=>exact ⟨[],rfl⟩
  | h1 l x ih =>
    obtain ⟨b,hb⟩:=ih;rw [joinS_snoc,hb]
    split
    · exact ⟨b++x,rfl⟩
    · exact ⟨b++[47]++x,rfl⟩
theorem fold_noslash (x:List UInt8) (hx:∀c∈x,c≠47):∀(o:List (List UInt8)) (y:List UInt8),x.foldl stepP (o++[y])=o++[y++x]:=by
  induction x with
  | nil=>intro o y;simp
  | cons c r ih =>
    intro o y;rw [List.foldl_cons];have hc:c≠47:=hx c List.mem_cons_self
    have hs:stepP (o++[y]) c=o++[y++[c]]:=by
      unfold stepP;rw [if_neg hc]
      have hl:(o++[y]).length - 1=o.length:=by simp
      rw [hl,List.set_append_right _ _ (Nat.le_refl _),Nat.sub_self,List.set_cons_zero]
      have hg:(o++[y]).getD o.length []=y:=by simp [List.getD]
      rw [hg]
    rw [hs,ih (fun c hc=>hx c (List.mem_cons_of_mem _ hc))];simp
theorem parts_join {l:List (List UInt8)} (h:∀x∈l,∀c∈x,c≠47):partsS (joinS l)=if l=[] then [[]] else l:=by
  induction l using snoc_ind with
  | h0=>rfl
  | h1 l x ih =>
    have ih:=ih (fun y hy=>h y (List.mem_append_left _ hy))
    have hx:=h x (List.mem_append_right _ (List.mem_singleton.2 rfl));rw [if_neg (by simp),joinS_snoc]
    by_cases hl:l=[]
    · subst hl
      simp only [List.length_nil,if_true]
      show ((x.foldl stepP ([]++[[]])):List (List UInt8))=[]++[x]
      rw [fold_noslash x hx]
      rfl
    · have hll:¬l.length=0:=by intro e;exact hl (List.eq_nil_of_length_eq_zero e)
      rw [if_neg hll];rw [if_neg hl] at ih;obtain ⟨b,hb⟩:=joinS_head l;rw [hb] at ih ⊢
      have ih2:b.foldl stepP [[]]=l:=ih
      show ((b++[47]++x).foldl stepP [[]])=l++[x]
      rw [List.foldl_append,List.foldl_append,ih2];have h47:List.foldl stepP l [47]=l++[[]]:=rfl;rw [h47,fold_noslash x hx]
      rfl
theorem join_parts {s:List UInt8} (h:headB s=true):joinS (partsS s)=s:=by
  obtain ⟨r,rfl⟩:∃r,s=47::r:=by
    cases s with
    | nil=>simp [headB] at h
    | cons c r => exact ⟨r, by have : c = 47 := by simpa [headB] using h
                               rw [this]⟩
  show joinS (r.foldl stepP [[]])=47::r
  suffices hh:(r.foldl stepP [[]])≠[]∧joinS (r.foldl stepP [[]])=47::r from hh.2
  clear h
  induction r using snoc_ind with
  | h0=>exact ⟨by simp,rfl⟩
  | h1 r c ih =>
    obtain ⟨ih1,ih2⟩:=ih;rw [List.foldl_append,List.foldl_cons,List.foldl_nil]
    generalize r.foldl stepP [[]]=P at ih1 ih2 ⊢
    by_cases hc:c=47
    · subst hc
      have hs:stepP P 47=P++[[]]:=rfl;rw [hs];refine ⟨by simp,?_⟩;rw [joinS_snoc,if_neg (by intro e;exact ih1 (List.eq_nil_of_length_eq_zero e)),ih2];simp
    · obtain ⟨Q,y,rfl⟩:∃Q y,P=Q++[y]:=⟨P.dropLast,P.getLast ih1,(List.dropLast_concat_getLast ih1).symm⟩
      have hs:stepP (Q++[y]) c=Q++[y++[c]]:=by
        have:=fold_noslash [c] (by intro d hd;rw [List.mem_singleton] at hd;rw [hd];exact hc) Q y
        simpa using this
      rw [hs];refine ⟨by simp,?_⟩;rw [joinS_snoc,←List.append_assoc,←joinS_snoc,ih2]
      rfl
theorem nameB_noslash {x:List UInt8} (h:nameB x=true):∀c∈x,c≠47:=by
  intro c hc e;simp only [nameB,Bool.and_eq_true,List.all_eq_true] at h
  have:=h.2 c hc
  subst e;simp [letB] at this
theorem nameB_not {x:List UInt8} (h:nameB x=true):¬(x=[]∨x=[46])∧¬x=[46,46]:=by
  refine ⟨?_,?_⟩
  · rintro (rfl|rfl) <;> simp [nameB] at h
  · rintro rfl;simp [nameB] at h
theorem left_names {l:List (List UInt8)} (h:l.all nameB=true):leftS l=some l:=by
  induction l using snoc_ind with
  | h0=>rfl
  | h1 l x ih =>
    rw [List.all_append,Bool.and_eq_true] at h
    have hx:nameB x=true:=by simpa using h.2
    rw [leftS_snoc,ih h.1];obtain ⟨n1,n2⟩:=nameB_not hx;simp only [stepC,if_neg n1,if_neg n2,hx,if_true]
theorem left_all {l o:List (List UInt8)} (h:leftS l=some o):o.all nameB=true:=by
  induction l using snoc_ind generalizing o with
  | h0=>cases h;rfl
  | h1 l x ih =>
    rw [leftS_snoc] at h
    cases hl:leftS l with
    | none=>rw [hl] at h;cases h
    | some o1 =>
      rw [hl] at h
      have i1:=ih hl
      unfold stepC at h;simp only at h
      split at h
      · cases h;exact i1
      · split at h
        · split at h
          · cases h
          · cases h
            rw [List.all_eq_true] at i1 ⊢;exact fun y hy=>i1 y (List.dropLast_subset _ hy)
        · split at h
          · rename_i hx
            cases h
            rw [List.all_append,i1]
            simpa using hx
          · cases h
theorem split_join {o:List (List UInt8)} (h:o.all nameB=true):splitB (joinS o)=true∧splitS (joinS o)=o:=by
  have hn:∀x∈o,∀c∈x,c≠47:=fun x hx=>nameB_noslash (List.all_eq_true.1 h x hx);have hp:=parts_join hn
  by_cases ho:o=[]
  · subst ho;exact ⟨rfl,rfl⟩
  · rw [if_neg ho] at hp
    obtain ⟨b,hb⟩:=joinS_head o
    have hh:headB (joinS o)=true:=by rw [hb];rfl
    have hne:joinS o≠[47]:=by
      intro e;rw [e] at hp
      have:partsS [47]=[[]]:=rfl
      rw [this] at hp;rw [←hp] at h;simp [nameB] at h
    refine ⟨?_,?_⟩
    · unfold splitB
      rw [hh,hp,h];simp
    · unfold splitS
      rw [if_neg hne,hh,hp,h]
      rfl
theorem clean_join {o:List (List UInt8)} (h:o.all nameB=true):cleanB (joinS o)=true∧cleanS (joinS o)=joinS o:=by
  have hn:∀x∈o,∀c∈x,c≠47:=fun x hx=>nameB_noslash (List.all_eq_true.1 h x hx);have hp:=parts_join hn;obtain ⟨b,hb⟩:=joinS_head o
  have hh:headB (joinS o)=true:=by rw [hb];rfl
  have hl:leftS (partsS (joinS o))=some o:=by
    rw [hp]
    by_cases ho:o=[]
    · subst ho;rfl
    · rw [if_neg ho];exact left_names h
  refine ⟨?_,?_⟩
  · unfold cleanB;rw [hh,hl];rfl
  · unfold cleanS;rw [if_pos hh,hl]
theorem split_back {s:List UInt8} (h:splitB s=true):joinS (splitS s)=s∧cleanB s=true∧cleanS s=s:=by
  have key:(splitS s).all nameB=true∧joinS (splitS s)=s:=by
    by_cases h1:s=[47]
    · subst h1;exact ⟨rfl,rfl⟩
    · have h2:(headB s&&(partsS s).all nameB)=true:=by
        unfold splitB at h;rw [Bool.or_eq_true,beq_iff_eq] at h
        rcases h with h|h
        · exact absurd h h1
        · exact h
      unfold splitS;rw [if_neg h1,if_pos h2];rw [Bool.and_eq_true] at h2;exact ⟨h2.2,join_parts h2.1⟩
  obtain ⟨k1,k2⟩:=key
  have:=clean_join k1
  rw [k2] at this;exact ⟨k2,this⟩
end Go.Proofs.YtggnbflbbfdohaaGreat.Plain

