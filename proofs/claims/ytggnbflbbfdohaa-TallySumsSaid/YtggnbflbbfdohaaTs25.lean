import Derived.Test.YtggnbflbbfdohaaTs1
import Derived.Test.YtggnbflbbfdohaaTs24
import Derived.Laws.ComplexArith

namespace Go.Proofs.Ytggnbflbbfdohaa
open Go.RowKit Go.Shelf Plain

def okF (b:Nat):Prop:=(Ieee.double.read b).isNaN=false
def zF (b:Nat):Nat:=(Ieee.double.add b 0).getD 0
def fI (n:Int):Nat:=floatOfInt .f64 n
theorem read_word (s:Bool) (r:Nat) (h:r≤Ieee.double.infRung):(Ieee.double.read (Ieee.double.word s r)).isNaN=false:=by
 rw [double_inf] at h
 have e:Ieee.double.word s r % 2 ^ 63=r:=by
  unfold Ieee.Format.word
  rw [double_sign]
  split <;> omega
 unfold Ieee.Format.read
 simp only [double_sign,e,double_inf,double_binade]
 split
 ·rfl
 ·split
  ·rfl
  ·split
   ·rfl
   ·omega
theorem ok_near (s:Bool) (m:Nat) (e:Int):okF (Ieee.double.nearest s m e):=by
 unfold okF Ieee.Format.nearest
 split
 ·exact read_word s 0 (Nat.zero_le _)
 ·exact read_word s _ (Nat.min_le_right _ _)
theorem ok_fI (n:Int):okF (fI n):=ok_near _ _ _
theorem read_zero:Ieee.double.read 0=.number false 0 Ieee.double.leastPlace:=by decide
theorem ok_add {b:Nat} (h:okF b):Ieee.double.add b 0=some (zF b)∧okF (zF b):=by
 unfold zF Ieee.Format.add
 unfold okF at h
 rw [read_zero]
 cases hr:Ieee.double.read b with
 | nan s f=>rw [hr] at h;exact absurd h (by simp [Ieee.Datum.isNaN])
 | infinity s=>exact ⟨rfl,read_word s _ (Nat.le_refl _)⟩
 | number s m i=>exact ⟨rfl,ok_near _ _ _⟩
theorem ok_zero:okF 0:=by unfold okF;rw [read_zero];rfl
theorem F_two:F 2=4611686018427387904:=by decide
theorem F_1:F 1=4607182418800017408:=by decide
theorem c_bump {a b k:Nat} (h1:a+k < 2 ^ 53) (hb:okF b):cSumBits .add .f64 (F a) b (F k) 0=some (F (a+k),zF b):=by
 have e1:floatBits .add .f64 (F a) (F k)=some (F (a+k)):=F_add h1
 have e2:floatBits .add .f64 b 0=some (zF b):=(ok_add hb).1
 unfold cSumBits
 rw [e1,e2]
 rfl

def cT (x:Nat×Nat):Value:=.complex .f64 (F x.1) x.2
def addT (cs:List (Nat×Nat)) (j k:Nat):List (Nat×Nat):=match cs[j]? with
 | some x=>cs.set j (x.1+k,zF x.2)
 | none=>cs
theorem addT_is {cs:List (Nat×Nat)} {j k:Nat} {x:Nat×Nat} (h:cs[j]?=some x):addT cs j k=cs.set j (x.1+k,zF x.2):=by unfold addT;rw [h]
theorem addT_len (cs:List (Nat×Nat)) (j k:Nat):(addT cs j k).length=cs.length:=by
 unfold addT
 split <;> simp
def OkT (K:Nat) (cs:List (Nat×Nat)):Prop:=∀x∈cs,x.1≤K∧okF x.2
theorem OkT.more {K K':Nat} {cs:List (Nat×Nat)} (h:OkT K cs) (hK:K≤K'):OkT K' cs:=fun x hx=>⟨Nat.le_trans (h x hx).1 hK,(h x hx).2⟩
theorem OkT.add {K:Nat} {cs:List (Nat×Nat)} (h:OkT K cs) (j k:Nat):OkT (K+k) (addT cs j k):=by
 unfold addT
 split
 ·rename_i x hx
  intro y hy
  rcases List.mem_or_eq_of_mem_set hy with h1|h1
  ·exact ⟨Nat.le_trans (h y h1).1 (Nat.le_add_right _ _),(h y h1).2⟩
  ·have h2:=h x (List.mem_of_getElem? hx)
   rw [h1]
   exact ⟨by show x.1+k≤K+k;omega,(ok_add h2.2).2⟩
 ·exact h.more (Nat.le_add_right _ _)
def sayOne (rs:List Bool) (k i:Nat) (n:NodV):Nat×Nat:=if i < k∧rs[i]?=some true∧n.k≠0 then (0,fI n.n) else (0,0)
def sayT (ns:List NodV) (rs:List Bool) (k:Nat):List (Nat×Nat):=ns.mapIdx (sayOne rs k)
theorem sayT_len (ns:List NodV) (rs:List Bool) (k:Nat):(sayT ns rs k).length=ns.length:=by simp [sayT]
theorem sayT_zero (ns:List NodV) (rs:List Bool):sayT ns rs 0=List.replicate ns.length (0,0):=by
 refine List.ext_getElem? fun i=>?_
 unfold sayT
 rw [List.getElem?_mapIdx,List.getElem?_replicate]
 split
 ·rename_i h
  rw [List.getElem?_eq_getElem h]
  simp [sayOne]
 ·rename_i h
  rw [List.getElem?_eq_none (by omega)]
  rfl
theorem sayT_get {ns:List NodV} {rs:List Bool} {k i:Nat} {x:NodV} (h:ns[i]?=some x):(sayT ns rs k)[i]?=some (sayOne rs k i x):=by
 unfold sayT
 rw [List.getElem?_mapIdx,h]
 rfl
theorem sayT_succ {ns:List NodV} {rs:List Bool} {k:Nat} {x:NodV} {r:Bool} (hx:ns[k]?=some x) (hr:rs[k]?=some r):sayT ns rs (k+1)=if r=true∧x.k≠0 then (sayT ns rs k).set k (0,fI x.n) else sayT ns rs k:=by
 refine List.ext_getElem? fun i=>?_
 by_cases hi:i=k
 ·subst hi
  have hlt:=(List.getElem?_eq_some_iff.1 hx).1
  rw [sayT_get hx]
  unfold sayOne
  rw [hr]
  split
  ·rename_i h
   have h2:r=true∧x.k≠0:=⟨Option.some.inj h.2.1,h.2.2⟩
   rw [if_pos h2,List.getElem?_set_self (by rw [sayT_len];exact hlt)]
  ·rename_i h
   have h2:¬(r=true∧x.k≠0):=fun h3=>h ⟨by omega,by rw [h3.1],h3.2⟩
   rw [if_neg h2,sayT_get hx]
   unfold sayOne
   rw [if_neg (fun h3=>by omega)]
 ·have h1:(if r=true∧x.k≠0 then (sayT ns rs k).set k (0,fI x.n) else sayT ns rs k)[i]?=(sayT ns rs k)[i]?:=by
   split
   ·rw [List.getElem?_set_ne (by omega)]
   ·rfl
  rw [h1]
  unfold sayT
  rw [List.getElem?_mapIdx,List.getElem?_mapIdx]
  cases ns[i]? with
  | none=>rfl
  | some y =>
   refine congrArg some ?_
   unfold sayOne
   by_cases h2:i < k
   ·simp only [h2,show i < k+1 from by omega]
   ·rw [if_neg (fun h3=>by omega),if_neg (fun h3=>by omega)]
theorem sayT_ok (ns:List NodV) (rs:List Bool) (k:Nat):OkT 0 (sayT ns rs k):=by
 intro x hx
 obtain ⟨i,hi⟩:=List.mem_iff_getElem?.1 hx
 unfold sayT at hi
 rw [List.getElem?_mapIdx] at hi
 cases h:ns[i]? with
 | none=>rw [h] at hi;cases hi
 | some y =>
  rw [h] at hi
  obtain rfl:=Option.some.inj hi
  unfold sayOne
  split
  ·exact ⟨Nat.le_refl _,ok_fI _⟩
  ·exact ⟨Nat.le_refl _,ok_zero⟩
def credT (ns:List NodV) (d:Int) (e:EntV):Int:=if isDir ns e.ino=true then d else e.ino
def entT (ns:List NodV) (d:Int) (cs:List (Nat×Nat)) (e:EntV):List (Nat×Nat):=if inN ns (credT ns d e)=true then addT cs (credT ns d e - 1).toNat 1 else cs
def wayT (ns:List NodV) (cs:List (Nat×Nat)) (y:WayV):List (Nat×Nat):=(nodAt ns y.ino).ents.foldl (entT ns y.ino) (addT cs (y.ino - 1).toNat 2)
def cntT (ns:List NodV) (rs:List Bool) (l:List WayV):List (Nat×Nat):=l.foldl (wayT ns) (sayT ns rs ns.length)
theorem entT_len (ns:List NodV) (d:Int) (cs:List (Nat×Nat)) (e:EntV):(entT ns d cs e).length=cs.length:=by
 unfold entT
 split
 ·exact addT_len _ _ _
 ·rfl
theorem entsT_len (ns:List NodV) (d:Int) (cs:List (Nat×Nat)) (l:List EntV):(l.foldl (entT ns d) cs).length=cs.length:=foldl_keep (P:=fun x:List (Nat×Nat)=>x.length=cs.length) _ _ rfl (fun _ _ _ h=>by rw [entT_len,h])
theorem wayT_len (ns:List NodV) (cs:List (Nat×Nat)) (y:WayV):(wayT ns cs y).length=cs.length:=by unfold wayT;rw [entsT_len,addT_len]
theorem waysT_len (ns:List NodV) (cs:List (Nat×Nat)) (l:List WayV):(l.foldl (wayT ns) cs).length=cs.length:=foldl_keep (P:=fun x:List (Nat×Nat)=>x.length=cs.length) _ _ rfl (fun _ _ _ h=>by rw [wayT_len,h])
theorem cntT_len (ns:List NodV) (rs:List Bool) (l:List WayV):(cntT ns rs l).length=ns.length:=by unfold cntT;rw [waysT_len,sayT_len]
theorem entT_ok {ns:List NodV} {d:Int} {cs:List (Nat×Nat)} {K:Nat} (h:OkT K cs) (e:EntV):OkT (K+1) (entT ns d cs e):=by
 unfold entT
 split
 ·exact h.add _ _
 ·exact h.more (Nat.le_add_right _ _)
theorem entsT_ok {ns : List NodV} {d : Int} : ∀ (l : List EntV) {cs : List (Nat × Nat)} {K : Nat}, OkT K cs → OkT (K + l.length) (l.foldl (entT ns d) cs)
 | [],_,_,h=>h
 | e::r,_,K,h=>by
  have h1:=entsT_ok (ns:=ns) (d:=d) r (entT_ok (ns:=ns) (d:=d) h e)
  rw [List.foldl_cons,List.length_cons,show K+(r.length+1)=K+1+r.length from by omega]
  exact h1
theorem wayT_ok {ns:List NodV} {cs:List (Nat×Nat)} {K:Nat} (h:OkT K cs) {y:WayV} (hy:(nodAt ns y.ino).ents.length≤16):OkT (K+18) (wayT ns cs y):=by
 unfold wayT
 exact (entsT_ok _ (h.add (y.ino - 1).toNat 2)).more (by omega)
theorem waysT_ok {ns : List NodV} (hM : Many ns) : ∀ (l : List WayV) {cs : List (Nat × Nat)} {K : Nat}, OkT K cs → OkT (K + 18 * l.length) (l.foldl (wayT ns) cs)
 | [],_,_,h=>h
 | y::r,_,K,h=>by
  have h1:=waysT_ok hM r (wayT_ok h (nodAt_ents hM y.ino))
  rw [List.foldl_cons,List.length_cons,show K+18*(r.length+1)=K+18+18*r.length from by omega]
  exact h1
theorem cntT_ok {ns:List NodV} (hM:Many ns) (rs:List Bool) (l:List WayV):OkT (18*l.length) (cntT ns rs l):=(waysT_ok hM l (sayT_ok ns rs ns.length)).more (by omega)

def sumT (p : Nat → Bool) : Nat → List (Nat × Nat) → Nat
 | _,[]=>0
 | i,x::r=>(if p i=true then x.1 else 0)+sumT p (i+1) r
theorem sumT_set (p : Nat → Bool) (k y : Nat) : ∀ (cs : List (Nat × Nat)) (i j : Nat) (x : Nat × Nat), cs[j]? = some x → sumT p i (cs.set j (x.1 + k, y)) = sumT p i cs + if p (i + j) = true then k else 0
 | [],_,_,_,h=>by simp at h
 | c::r,i,0,x,h=>by
  obtain rfl:c=x:=by simpa using h
  simp only [List.set_cons_zero,sumT,Nat.add_zero]
  split <;> omega
 | c::r,i,j+1,x,h=>by
  have h1:=sumT_set p k y r (i+1) j x (by simpa using h)
  simp only [List.set_cons_succ,sumT]
  rw [h1,show i+1+j=i+(j+1) from by omega]
  omega
theorem sumT_add (p:Nat→Bool) {cs:List (Nat×Nat)} {j:Nat} (k:Nat) (h:j < cs.length):sumT p 0 (addT cs j k)=sumT p 0 cs+if p j=true then k else 0:=by
 rw [addT_is (List.getElem?_eq_getElem h),sumT_set p k _ cs 0 j _ (List.getElem?_eq_getElem h),Nat.zero_add]
theorem sumT_snoc (p : Nat → Bool) (x : Nat × Nat) : ∀ (cs : List (Nat × Nat)) (i : Nat), sumT p i (cs ++ [x]) = sumT p i cs + if p (i + cs.length) = true then x.1 else 0
 | [],i=>by simp [sumT]
 | c::r,i=>by
  have h1:=sumT_snoc p x r (i+1)
  simp only [List.cons_append,sumT,List.length_cons]
  rw [h1,show i+1+r.length=i+(r.length+1) from by omega]
  omega
theorem sumT_take (p:Nat→Bool) {cs:List (Nat×Nat)} {i:Nat} {x:Nat×Nat} (h:cs[i]?=some x):sumT p 0 (cs.take (i+1))=sumT p 0 (cs.take i)+if p i=true then x.1 else 0:=by
 have hi:=(List.getElem?_eq_some_iff.1 h).1
 rw [List.take_add_one,h]
 show sumT p 0 (cs.take i++[x])=_
 rw [sumT_snoc,List.length_take,Nat.zero_add,Nat.min_eq_left (by omega)]
theorem sumT_le (p : Nat → Bool) (b : List (Nat × Nat)) : ∀ (a : List (Nat × Nat)) (i : Nat), sumT p i a ≤ sumT p i (a ++ b)
 | [],_=>Nat.zero_le _
 | c::r,i=>by
  have h1:=sumT_le p b r (i+1)
  simp only [List.cons_append,sumT]
  omega
theorem sumT_part (p:Nat→Bool) (cs:List (Nat×Nat)) (i:Nat):sumT p 0 (cs.take i)≤sumT p 0 cs:=by
 have h:=sumT_le p (cs.drop i) (cs.take i) 0
 rwa [List.take_append_drop] at h
theorem sumT_none (p : Nat → Bool) : ∀ (cs : List (Nat × Nat)) (i : Nat), (∀ x ∈ cs, x.1 ≤ 0) → sumT p i cs = 0
 | [],_,_=>rfl
 | c::r,i,h=>by
  have h1:=sumT_none p r (i+1) (fun x hx=>h x (List.mem_cons_of_mem _ hx))
  have h2:=h c List.mem_cons_self
  simp only [sumT,h1]
  split <;> omega
def dirP (ns:List NodV) (j:Nat):Bool:=isDir ns ((j:Int)+1)
def nonP (ns:List NodV) (j:Nat):Bool:=!isDir ns ((j:Int)+1)
theorem inN_iff {ns:List NodV} {i:Int}:inN ns i=true↔1≤i∧i≤(ns.length:Int):=by
 unfold inN
 simp only [Bool.and_eq_true,decide_eq_true_eq]
theorem ent_sums {ns:List NodV} {d:Int} {cs:List (Nat×Nat)} (hl:cs.length=ns.length) (hd:isDir ns d=true) (e:EntV) :
  sumT (nonP ns) 0 (entT ns d cs e)=(if inN ns e.ino=true∧isDir ns e.ino=false then sumT (nonP ns) 0 cs+1 else sumT (nonP ns) 0 cs)∧sumT (dirP ns) 0 (entT ns d cs e)=(if isDir ns e.ino=true then sumT (dirP ns) 0 cs+1 else sumT (dirP ns) 0 cs):=by
 have hin:=isDir_in hd
 unfold entT credT
 cases he:isDir ns e.ino with
 | true =>
  have e1:((d - 1).toNat:Int)+1=d:=by omega
  have hj:(d - 1).toNat < cs.length:=by omega
  simp only [if_true,inN_iff.2 hin,sumT_add _ _ hj,nonP,dirP,e1,hd,Bool.not_true,Bool.false_eq_true,if_false,Nat.add_zero]
  (try simp)
 | false =>
  simp only [Bool.false_eq_true,if_false]
  cases hn:inN ns e.ino with
  | false=>simp
  | true =>
   have h2:=inN_iff.1 hn
   have e1:((e.ino - 1).toNat:Int)+1=e.ino:=by omega
   have hj:(e.ino - 1).toNat < cs.length:=by omega
   simp only [if_true,sumT_add _ _ hj,nonP,dirP,e1,he,Bool.not_false,Bool.false_eq_true,if_false,Nat.add_zero,and_self]
   (try simp)
def tE (ns:List NodV) (s:Nat×Nat) (e:EntV):Nat×Nat:=if inN ns e.ino=true then (if isDir ns e.ino=true then (s.1,s.2+1) else (s.1+1,s.2)) else s
def tW (ns:List NodV) (s:Nat×Nat) (y:WayV):Nat×Nat:=(nodAt ns y.ino).ents.foldl (tE ns) (s.1,s.2+2)
def bothT (ns:List NodV) (cs:List (Nat×Nat)):Nat×Nat:=(sumT (nonP ns) 0 cs,sumT (dirP ns) 0 cs)
theorem ent_both {ns:List NodV} {d:Int} {cs:List (Nat×Nat)} (hl:cs.length=ns.length) (hd:isDir ns d=true) (e:EntV):bothT ns (entT ns d cs e)=tE ns (bothT ns cs) e:=by
 obtain ⟨h1,h2⟩:=ent_sums hl hd e
 unfold bothT tE
 rw [h1,h2]
 cases hi:inN ns e.ino with
 | true=>cases hd2:isDir ns e.ino <;> simp
 | false =>
  have:isDir ns e.ino=false:=by
   cases hd2:isDir ns e.ino with
   | false=>rfl
   | true=>rw [inN_iff.2 (isDir_in hd2)] at hi;cases hi
  simp [this]
theorem ents_both {ns : List NodV} {d : Int} (hd : isDir ns d = true) : ∀ (l : List EntV) (cs : List (Nat × Nat)), cs.length = ns.length → bothT ns (l.foldl (entT ns d) cs) = l.foldl (tE ns) (bothT ns cs)
 | [],_,_=>rfl
 | e::r,cs,hl=>by
  rw [List.foldl_cons,List.foldl_cons,ents_both hd r _ (by rw [entT_len,hl]),ent_both hl hd]
theorem way_both {ns:List NodV} {y:WayV} (hd:isDir ns y.ino=true) {cs:List (Nat×Nat)} (hl:cs.length=ns.length):bothT ns (wayT ns cs y)=tW ns (bothT ns cs) y:=by
 have hin:=isDir_in hd
 have e1:((y.ino - 1).toNat:Int)+1=y.ino:=by omega
 unfold wayT tW
 rw [ents_both hd _ _ (by rw [addT_len,hl])]
 have h1:bothT ns (addT cs (y.ino - 1).toNat 2)=((bothT ns cs).1,(bothT ns cs).2+2):=by
  unfold bothT
  rw [sumT_add _ _ (by omega),sumT_add _ _ (by omega)]
  simp only [nonP,dirP,e1,hd]
  simp
 rw [h1]
theorem ways_both {ns : List NodV} : ∀ (l : List WayV) (cs : List (Nat × Nat)), (∀ y ∈ l, isDir ns y.ino = true) → cs.length = ns.length → bothT ns (l.foldl (wayT ns) cs) = l.foldl (tW ns) (bothT ns cs)
 | [],_,_,_=>rfl
 | y::r,cs,h,hl=>by
  rw [List.foldl_cons,List.foldl_cons,ways_both r _ (fun z hz=>h z (List.mem_cons_of_mem _ hz)) (by rw [wayT_len,hl]),way_both (h y List.mem_cons_self) hl]
theorem all_both {ns:List NodV} (rs:List Bool) {l:List WayV} (h:OkW ns l):bothT ns (cntT ns rs l)=l.foldl (tW ns) (0,0):=by
 unfold cntT
 rw [ways_both l _ h.1 (sayT_len _ _ _)]
 have h1:=sayT_ok ns rs ns.length
 have h2:bothT ns (sayT ns rs ns.length)=(0,0):=by
  unfold bothT
  rw [sumT_none _ _ _ (fun x hx=>(h1 x hx).1),sumT_none _ _ _ (fun x hx=>(h1 x hx).1)]
 rw [h2]
theorem tE_le (ns:List NodV) (s:Nat×Nat) (e:EntV):(tE ns s e).1≤s.1+1∧(tE ns s e).2≤s.2+1:=by
 unfold tE
 split
 ·split
  ·exact ⟨Nat.le_add_right _ _,Nat.le_refl _⟩
  ·exact ⟨Nat.le_refl _,Nat.le_add_right _ _⟩
 ·exact ⟨Nat.le_add_right _ _,Nat.le_add_right _ _⟩
theorem tEs_le (ns : List NodV) : ∀ (l : List EntV) (s : Nat × Nat), (l.foldl (tE ns) s).1 ≤ s.1 + l.length ∧ (l.foldl (tE ns) s).2 ≤ s.2 + l.length
 | [],_=>⟨Nat.le_refl _,Nat.le_refl _⟩
 | e::r,s=>by
  have h1:=tEs_le ns r (tE ns s e)
  have h2:=tE_le ns s e
  rw [List.foldl_cons,List.length_cons]
  omega
theorem tWs_le {ns : List NodV} (hM : Many ns) : ∀ (l : List WayV) (s : Nat × Nat), (l.foldl (tW ns) s).1 ≤ s.1 + 18 * l.length ∧ (l.foldl (tW ns) s).2 ≤ s.2 + 18 * l.length
 | [],_=>⟨Nat.le_refl _,Nat.le_refl _⟩
 | y::r,s=>by
  have h1:=tWs_le hM r (tW ns s y)
  have h2:=tEs_le ns (nodAt ns y.ino).ents (s.1,s.2+2)
  have h3:=nodAt_ents hM y.ino
  rw [List.foldl_cons,List.length_cons]
  unfold tW at h1 ⊢
  simp only at h2
  omega
def badT (x:Nat×Nat):Bool:=!(Ieee.double.order (F x.1) x.2==some .eq)
end Go.Proofs.Ytggnbflbbfdohaa

