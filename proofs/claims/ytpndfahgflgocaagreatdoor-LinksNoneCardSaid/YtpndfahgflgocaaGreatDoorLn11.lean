import Derived.Test.YtpndfahgflgocaaGreatDoorLn10
import Derived.Test.YtpndfahgflgocaaGreatDoorLn2
import Derived.WalkKit
import Derived.OpenShut
import Derived.ChangeArms
import Derived.Lib.SmallJoins
import Derived.ProofKit
import Derived.Test.YtpndfahgflgocaaGreatDoorLn4

namespace Go.Proofs.YtpndfahgflgocaaGreatDoor.Plain
theorem less_irrefl (a:List UInt8):lessS a a=false:=by
 unfold lessS
 induction a with
 | nil=>simp [Op.bytesLess]
 | cons x r ih=>simp [Op.bytesLess,ih]
theorem less_trans {a b c:List UInt8} (h1:lessS a b=true) (h2:lessS b c=true):lessS a c=true:=by
 unfold lessS at *
 induction a generalizing b c with
 | nil =>
  cases b with
  | nil=>simp [Op.bytesLess] at h1
  | cons y s=>cases c with
   | nil=>simp [Op.bytesLess] at h2
   | cons z t=>simp [Op.bytesLess]
 | cons x r ih =>
  cases b with
  | nil=>simp [Op.bytesLess] at h1
  | cons y s=>cases c with
   | nil=>simp [Op.bytesLess] at h2
   | cons z t =>
    simp only [Op.bytesLess,Bool.or_eq_true,Bool.and_eq_true,decide_eq_true_eq,beq_iff_eq] at h1 h2 ⊢
    rcases h1 with h1|⟨rfl,h1⟩
    ·rcases h2 with h2|⟨rfl,h2⟩
     ·left;exact UInt8.lt_trans h1 h2
     ·left;exact h1
    ·rcases h2 with h2|⟨rfl,h2⟩
     ·left;exact h2
     ·right;exact ⟨rfl,ih h1 h2⟩
theorem less_total {a b:List UInt8} (h1:lessS a b=false) (h2:lessS b a=false):a=b:=by
 unfold lessS at *
 induction a generalizing b with
 | nil =>
  cases b with
  | nil=>rfl
  | cons y s=>simp [Op.bytesLess] at h1
 | cons x r ih =>
  cases b with
  | nil=>simp [Op.bytesLess] at h2
  | cons y s =>
   simp only [Op.bytesLess,Bool.or_eq_false_iff,Bool.and_eq_false_iff,decide_eq_false_iff_not,beq_eq_false_iff_ne] at h1 h2
   have hxy:x=y:=by
    apply UInt8.toNat_inj.1
    have a1:¬x.toNat < y.toNat:=fun h=>h1.1 (UInt8.lt_iff_toNat_lt.2 h)
    have a2:¬y.toNat < x.toNat:=fun h=>h2.1 (UInt8.lt_iff_toNat_lt.2 h)
    omega
   subst hxy
   congr 1
   apply ih
   ·rcases h1.2 with h|h
    ·exact absurd rfl h
    ·exact h
   ·rcases h2.2 with h|h
    ·exact absurd rfl h
    ·exact h
theorem less_asymm {a b:List UInt8} (h:lessS a b=true):lessS b a=false:=by
 cases h2:lessS b a with
 | false=>rfl
 | true=>have:=less_trans h h2;rw [less_irrefl] at this;cases this
def Rising (l:List (List UInt8)):Prop:=l.Pairwise fun a b=>lessS a b=true
theorem rising_eq {l k:List (List UInt8)} (hl:Rising l) (hk:Rising k) (h:∀y,y∈l↔y∈k):l=k:=by
 induction l generalizing k with
 | nil =>
  cases k with
  | nil=>rfl
  | cons y s=>exact absurd ((h y).2 (List.mem_cons_self)) (by simp)
 | cons x r ih =>
  cases k with
  | nil=>exact absurd ((h x).1 (List.mem_cons_self)) (by simp)
  | cons y s =>
   have hx:=List.pairwise_cons.1 hl
   have hy:=List.pairwise_cons.1 hk
   have hxy:x=y:=by
    rcases List.mem_cons.1 ((h x).1 List.mem_cons_self) with e|e
    ·exact e
    ·rcases List.mem_cons.1 ((h y).2 List.mem_cons_self) with e2|e2
     ·exact e2.symm
     ·have h1:=hy.1 x e
      have h2:=hx.1 y e2
      rw [less_asymm h1] at h2
      cases h2
   subst hxy
   congr 1
   refine ih hx.2 hy.2 fun z=>?_
   have hz:=h z
   constructor
   ·intro hm
    rcases List.mem_cons.1 (hz.1 (List.mem_cons_of_mem _ hm)) with e|e
    ·subst e;have:=hx.1 z hm;rw [less_irrefl] at this;cases this
    ·exact e
   ·intro hm
    rcases List.mem_cons.1 (hz.2 (List.mem_cons_of_mem _ hm)) with e|e
    ·subst e;have:=hy.1 z hm;rw [less_irrefl] at this;cases this
    ·exact e
theorem pos_spec (x:List UInt8) (o:List (List UInt8)):(∀y∈o.take (posS x o),lessS y x=true)∧(∀y,o[posS x o]?=some y→lessS y x=false):=by
 unfold posS
 induction o with
 | nil=>simp
 | cons y r ih =>
  rw [List.takeWhile_cons]
  cases h:lessS y x with
  | false =>
   simp only [Bool.false_eq_true,if_false,List.length_nil,List.take_zero,List.not_mem_nil,false_imp_iff,implies_true,true_and,List.getElem?_cons_zero,Option.some.injEq]
   intro z e;rw [←e];exact h
  | true =>
   simp only [if_true,List.length_cons,List.take_succ_cons,List.mem_cons,List.getElem?_cons_succ]
   refine ⟨fun z hz=>?_,ih.2⟩
   rcases hz with rfl|hz
   ·exact h
   ·exact ih.1 z hz
theorem ins_rising {x:List UInt8} {o:List (List UInt8)} (ho:Rising o):Rising (insS x o)∧∀y,y∈insS x o↔y=x∨y∈o:=by
 obtain ⟨h1,h2⟩:=pos_spec x o
 have hsplit:o.take (posS x o)++o.drop (posS x o)=o:=List.take_append_drop _ _
 unfold insS
 split
 ·rename_i he
  refine ⟨ho,fun y=>⟨fun hy=>.inr hy,fun hy=>?_⟩⟩
  rcases hy with rfl|hy
  ·exact List.mem_of_getElem? he
  ·exact hy
 ·rename_i he
  have hd:∀y∈o.drop (posS x o),lessS x y=true:=by
   cases hdr:o.drop (posS x o) with
   | nil=>intro y hy;cases hy
   | cons z t =>
    have hz:o[posS x o]?=some z:=by
     have:(o.drop (posS x o))[0]?=some z:=by rw [hdr];rfl
     rwa [List.getElem?_drop,Nat.add_zero] at this
    have hzx:=h2 z hz
    have hne:z≠x:=by intro e;apply he;rw [hz,e]
    have hxz:lessS x z=true:=by
     cases hh:lessS x z with
     | true=>rfl
     | false=>exact absurd (less_total hzx hh) hne
    have hpw:Rising (z::t):=by
     have:Rising (o.drop (posS x o)):=List.Pairwise.sublist (List.drop_sublist _ _) ho
     rwa [hdr] at this
    intro y hy
    rcases List.mem_cons.1 hy with rfl|hy
    ·exact hxz
    ·exact less_trans hxz ((List.pairwise_cons.1 hpw).1 y hy)
  refine ⟨?_,fun y=>?_⟩
  ·refine List.pairwise_append.2 ⟨List.Pairwise.sublist (List.take_sublist _ _) ho,List.pairwise_cons.2 ⟨hd,List.Pairwise.sublist (List.drop_sublist _ _) ho⟩,fun a ha b hb=>?_⟩
   rcases List.mem_cons.1 hb with rfl|hb
   ·exact h1 a ha
   ·exact less_trans (h1 a ha) (hd b hb)
  ·rw [List.mem_append,List.mem_cons]
   conv=>rhs;rw [←hsplit,List.mem_append]
   constructor
   ·rintro (h|h|h)
    ·exact .inr (.inl h)
    ·exact .inl h
    ·exact .inr (.inr h)
   ·rintro (h|h|h)
    ·exact .inr (.inl h)
    ·exact .inl h
    ·exact .inr (.inr h)
theorem sortS_rising (l:List (List UInt8)):Rising (sortS l)∧∀y,y∈sortS l↔y∈l:=by
 suffices h:∀(l o:List (List UInt8)),Rising o→Rising (l.foldl (fun o x=>insS x o) o)∧∀y,y∈l.foldl (fun o x=>insS x o) o↔y∈o∨y∈l by
  have:=h l [] List.Pairwise.nil
  refine ⟨this.1,fun y=>?_⟩
  have:=this.2 y
  simpa [sortS] using this
 intro l
 induction l with
 | nil=>intro o ho;exact ⟨ho,fun y=>by simp⟩
 | cons x r ih =>
  intro o ho
  obtain ⟨a1,a2⟩:=ins_rising (x:=x) ho
  obtain ⟨b1,b2⟩:=ih _ a1
  refine ⟨b1,fun y=>?_⟩
  rw [List.foldl_cons,b2,a2,List.mem_cons]
  constructor
  ·rintro ((h|h)|h)
   ·exact .inr (.inl h)
   ·exact .inl h
   ·exact .inr (.inr h)
  ·rintro (h|h|h)
   ·exact .inl (.inr h)
   ·exact .inl (.inl h)
   ·exact .inr h
theorem sortS_unique {l k:List (List UInt8)} (hk:Rising k) (h:∀y,y∈k↔y∈l):k=sortS l :=
 rising_eq hk (sortS_rising l).1 fun y=>(h y).trans ((sortS_rising l).2 y).symm
end Go.Proofs.YtpndfahgflgocaaGreatDoor.Plain

namespace Go.Proofs.YtpndfahgflgocaaGreatDoor
open Go.RowKit Plain

def lowAt (ls:List (List NodV)) (la i:Int):NodV:=if 1≤la∧la≤(ls.length:Int) then nodAt ((ls[(la - 1).toNat]?).getD []) i else nod0
theorem low_out {ls:List (List NodV)} {la i:Int} (h:¬(1≤la∧la≤(ls.length:Int))):lowAt ls la i=nod0:=by unfold lowAt;rw [if_neg h]
theorem low_in {ls:List (List NodV)} {la i:Int} (h:1≤la∧la≤(ls.length:Int)):∃(j:Nat) (ns:List NodV),la=(j:Int)+1∧ls[j]?=some ns∧lowAt ls la i=nodAt ns i:=by
 obtain ⟨j,hj⟩:=Int.eq_ofNat_of_zero_le (show 0≤la - 1 by omega)
 have hl:j < ls.length:=by omega
 refine ⟨j,ls[j],by omega,List.getElem?_eq_getElem hl,?_⟩
 unfold lowAt
 rw [if_pos h,hj]
 simp [hl]
def FewL (ls:List (List NodV)):Prop:=ls.length≤3∧∀ns∈ls,ns.length≤24∧∀x∈ns,PlainN x
theorem plain0:PlainN nod0:=by
 refine ⟨fun i e _ h=>by simp [nod0] at h,?_,?_,?_,?_,?_,fun e h=>by simp [nod0] at h⟩ <;> simp [nod0,att0]
theorem nodAt_plain {ns:List NodV} (h:∀x∈ns,PlainN x) (i:Int):PlainN (nodAt ns i):=by
 unfold nodAt
 split
 ·cases hx:ns[(i - 1).toNat]? with
  | none=>exact plain0
  | some x=>exact h x (List.mem_of_getElem? hx)
 ·exact plain0
theorem low_plain {ls:List (List NodV)} (h:FewL ls) (la i:Int):PlainN (lowAt ls la i):=by
 by_cases hh:1≤la∧la≤(ls.length:Int)
 ·obtain ⟨j,ns,-,hn,e⟩:=low_in (i:=i) hh
  rw [e]
  exact nodAt_plain (h.2 ns (List.mem_of_getElem? hn)).2 i
 ·rw [low_out hh]
  exact plain0
def opq (n:NodV):Bool:=decide (n.att.h % 2=1)&&decide (n.att.o=121)
def entL (ls:List (List NodV)) (p:Int×Int):List EntV:=if (lowAt ls p.1 p.2).k=1 then (lowAt ls p.1 p.2).ents else []
theorem entL_len {ls:List (List NodV)} (h:FewL ls) (p:Int×Int):(entL ls p).length≤16:=by
 unfold entL
 split
 ·exact (low_plain h p.1 p.2).2.2.2.2.1
 ·simp
def useE (ls:List (List NodV)) (la:Int) (nm:List UInt8) (e:EntV):Bool:=decide (e.name=nm)&&decide ((lowAt ls la e.ino).k≠0)
def firstL (ls:List (List NodV)) (p:Int×Int) (nm:List UInt8):Option (Int×Int):=((entL ls p).find? (useE ls p.1 nm)).map (fun e=>(p.1,e.ino))
def layL (ls:List (List NodV)) (la:Int):List NodV:=if 1≤la∧la≤(ls.length:Int) then (ls[(la - 1).toNat]?).getD [] else []
theorem nodAt_nil (i:Int):nodAt [] i=nod0:=by unfold nodAt;rw [if_neg];simp;omega
theorem lay_at (ls:List (List NodV)) (la i:Int):nodAt (layL ls la) i=lowAt ls la i:=by
 unfold layL lowAt
 split
 ·rfl
 ·exact nodAt_nil i
def entB (ns:List NodV) (i:Int):List EntV:=if (nodAt ns i).k=1 then (nodAt ns i).ents else []
def useB (ns:List NodV) (nm:List UInt8) (e:EntV):Bool:=decide (e.name=nm)&&decide ((nodAt ns e.ino).k≠0)
def firstB (ns:List NodV) (i:Int) (nm:List UInt8):Option EntV:=(entB ns i).find? (useB ns nm)
def entO (o:Option EntV):EntV:=o.getD ent0
def nodB (ns:List NodV) (o:Option EntV):NodV:=match o with
 | none=>nod0
 | some e=>nodAt ns e.ino
theorem ent_lay (ls:List (List NodV)) (p:Int×Int):entB (layL ls p.1) p.2=entL ls p:=by unfold entB entL;rw [lay_at]
theorem use_lay (ls:List (List NodV)) (la:Int) (nm:List UInt8):useB (layL ls la) nm=useE ls la nm:=by funext e;unfold useB useE;rw [lay_at]
theorem first_lay (ls:List (List NodV)) (p:Int×Int) (nm:List UInt8):firstL ls p nm=(firstB (layL ls p.1) p.2 nm).map (fun e=>(p.1,e.ino)):=by unfold firstL firstB;rw [ent_lay,use_lay]
theorem nodB_lay (ls:List (List NodV)) (la:Int) (o:Option EntV):nodB (layL ls la) o=(match o.map (fun e=>(la,e.ino)) with|none=>nod0|some x=>lowAt ls x.1 x.2):=by
 cases o with
 | none=>rfl
 | some e=>exact lay_at ls la e.ino
theorem firstB_use {ns:List NodV} {i:Int} {nm:List UInt8} {e:EntV} (h:firstB ns i nm=some e):(nodAt ns e.ino).k≠0∧e.name=nm∧e∈entB ns i:=by
 have h1:=List.find?_some h
 unfold useB at h1
 simp only [Bool.and_eq_true,decide_eq_true_eq] at h1
 exact ⟨h1.2,h1.1,List.mem_of_find?_eq_some h⟩
theorem lay_few {ls:List (List NodV)} (h:FewL ls) (la:Int):(layL ls la).length≤24∧∀x∈layL ls la,PlainN x:=by
 unfold layL
 split
 ·cases hx:ls[(la - 1).toNat]? with
  | none=>simp
  | some ns=>exact h.2 ns (List.mem_of_getElem? hx)
 ·simp
def findL (ls : List (List NodV)) (nm : List UInt8) : List (Int × Int) → List (Int × Int) → Int × List (Int × Int)
 | [],acc=>if acc=[] then (0,[]) else (1,acc)
 | p::r,acc=>match firstL ls p nm with
  | none=>findL ls nm r acc
  | some x => if (lowAt ls x.1 x.2).k = 1 then (if opq (lowAt ls x.1 x.2) then (1, acc ++ [x]) else findL ls nm r (acc ++ [x]))
   else if acc≠[] then (1,acc) else if (lowAt ls x.1 x.2).k=4 then (0,[]) else ((lowAt ls x.1 x.2).k,[x])
theorem first_use {ls:List (List NodV)} {p x:Int×Int} {nm:List UInt8} (h:firstL ls p nm=some x):(lowAt ls x.1 x.2).k≠0:=by
 unfold firstL at h
 rw [Option.map_eq_some_iff] at h
 obtain ⟨e,he,rfl⟩:=h
 have:=List.find?_some he
 unfold useE at this
 simp only [Bool.and_eq_true,decide_eq_true_eq] at this
 exact this.2
theorem findL_len (ls : List (List NodV)) (nm : List UInt8) : ∀ (l acc : List (Int × Int)), (findL ls nm l acc).2.length ≤ l.length + acc.length
 | [],acc=>by unfold findL;split <;> simp
 | p::r,acc=>by
  unfold findL
  have h1:=findL_len ls nm r acc
  split
  ·simp only [List.length_cons];omega
  ·rename_i x _
   have h2:=findL_len ls nm r (acc++[x])
   simp only [List.length_append,List.length_cons,List.length_nil] at h2 ⊢
   (repeat' split) <;> (try simp only [List.length_append,List.length_cons,List.length_nil]) <;> (first|omega|(dsimp only;omega))
theorem findL_kind {ls : List (List NodV)} (hF : FewL ls) (nm : List UInt8) : ∀ (l acc : List (Int × Int)), let R := findL ls nm l acc; (R.1 ≠ 0 ↔ R.2 ≠ []) ∧ (R.1 ≠ 1 → R.2.length ≤ 1) ∧ 0 ≤ R.1 ∧ R.1 ≤ 3
 | [],acc=>by
  unfold findL
  split <;> simp_all
 | p::r,acc=>by
  have h1:=findL_kind hF nm r acc
  unfold findL
  cases hx:firstL ls p nm with
  | none=>exact h1
  | some x =>
   have h2:=findL_kind hF nm r (acc++[x])
   have hk:=(low_plain hF x.1 x.2).2.1
   have hu:=first_use hx
   simp only
   by_cases k1:(lowAt ls x.1 x.2).k=1
   ·rw [if_pos k1]
    cases opq (lowAt ls x.1 x.2)
    ·simpa using h2
    ·simp
   ·rw [if_neg k1]
    by_cases ha:acc≠[]
    ·rw [if_pos ha]
     simp [ha]
    ·rw [if_neg ha]
     by_cases k4:(lowAt ls x.1 x.2).k=4
     ·rw [if_pos k4];simp
     ·rw [if_neg k4]
      simp [hu]
      omega
end Go.Proofs.YtpndfahgflgocaaGreatDoor

namespace Go.Proofs.YtpndfahgflgocaaGreatDoor
open Go.RowKit Plain Go.ChangeShapes Go.WideShapes

section
variable {α H : Type} {enc : TypeId × Value → H} {P : Program} {w : World} {spare : Nat → Bool} {held : Bool}
theorem open_rde {t e : TypeId} {fuel : Nat} {cs : List Value} {x : DataW H × List MemPlace} (E : Enc α) (ht : P.underlying t = some (.slice e)) (hc : P.cellsOf e = E.k) (hk : 0 < E.k)
  (hel:∀n cs y,cs.length=E.k→DataW.trod enc P w 0 spare held n e cs=some y→∃x,E.R w (Under w.heap.size) cs x)
  (h:DataW.trod enc P w 0 spare held fuel t cs=some x):∃A n c l,cs=[.slice A n c]∧n≤c∧RdE E w (Under w.heap.size) A n l:=by
 rcases DataW.trod_slice ht h with ⟨rfl,-⟩|⟨a,len,cap,elems,rest,n,-,rfl,-,-,hl,-,hlen,hcel,-,-⟩
 ·exact ⟨_,_,_,[],rfl,Nat.le_refl _,RdE.none_ _ _ _ _⟩
 ·have each:∀i,i < len→∃y,∃cs,w.cells? 0 (a.add (i*E.k)) E.k=some cs∧E.R w (Under w.heap.size) cs y:=by
   intro i hi
   have h1:=hcel i hi
   rw [hc,List.getElem?_eq_getElem (by omega),Option.bind_eq_some_iff] at h1
   obtain ⟨cs',hcs,hy⟩:=h1
   obtain ⟨x,hx⟩:=hel _ _ _ (World.cells?_some hcs).2.1 hy
   exact ⟨x,cs',hcs,hx⟩
  refine ⟨_,_,_,List.ofFn (fun i:Fin len=>Classical.choose (each i.1 i.2)),rfl,hl,by simp,fun hn=>?_⟩
  obtain ⟨y,cs0,hcs0,-⟩:=each 0 hn
  obtain ⟨-,hl0,h0⟩:=World.cells?_some hcs0
  have hcell0:=h0 0 hk
  rw [List.getElem?_eq_getElem (by omega)] at hcell0
  obtain ⟨b,off,spot⟩:=a
  have hspot:spot=none:=by simpa [Addr.add] using World.cell?_spot hcell0
  subst hspot
  have hadd:∀o i,(⟨b,o,none⟩:Addr).add i=⟨b,o+i,none⟩:=by
   intro o i
   unfold Addr.add
   split
   ·rename_i h0;subst h0;rfl
   ·rfl
  refine ⟨b,off,rfl,?_,fun i y hy=>?_⟩
  ·have:=block_lt_of_cell hcell0
   rw [hadd,hadd] at this
   exact this
  ·rw [List.getElem?_ofFn] at hy
   split at hy
   ·next hi =>
    obtain rfl:=Option.some.inj hy
    obtain ⟨cs,hcs,hr⟩:=Classical.choose_spec (each i hi)
    obtain ⟨-,hl1,h1⟩:=World.cells?_some hcs
    refine ⟨cs,hr,fun j v hj=>?_⟩
    have hjl:=(List.getElem?_eq_some_iff.1 hj).1
    have:=h1 j (by omega)
    rw [hadd,hadd,hj] at this
    rw [←this,Nat.add_assoc]
   ·cases hy
end
end Go.Proofs.YtpndfahgflgocaaGreatDoor

namespace Go.Proofs.YtpndfahgflgocaaGreatDoor
open Go.RowKit Go.Shelf Plain Go.WideShapes Go.ChangeShapes

section
variable {H : Type} {enc : TypeId × Value → H} {w : World} {base : Nat} {spare : Nat → Bool} {held : Bool}
theorem cell_i64 {n:Nat} {c:Value} {y:DataW H×List MemPlace} (h:DataW.trod enc Tryz.prog w base spare held n 3 [c]=some y):∃a:Int,c=.int .i64 a:=by
 obtain ⟨a,e,hy,-⟩:=DataW.trod_int Tryz.underlying3 h
 exact ⟨a,by simpa using e⟩
theorem cell_str {n:Nat} {c:Value} {y:DataW H×List MemPlace} (h:DataW.trod enc Tryz.prog w base spare held n 9 [c]=some y):∃l:List UInt8,c=.string ⟨l.toArray⟩:=by
 obtain ⟨s,e,hy,-⟩:=DataW.trod_string Tryz.underlying9 h
 exact ⟨s.data.toList,by simpa using e⟩
theorem three {l:List Value} (h:l.length=3):∃a b c,l=[a,b,c]:=by
 match l,h with
 | [a,b,c],_=>exact ⟨a,b,c,rfl⟩
end
end Go.Proofs.YtpndfahgflgocaaGreatDoor

namespace Go.Proofs.YtpndfahgflgocaaGreatDoor
open Go.RowKit Go.Shelf Plain Go.WideShapes Go.ChangeShapes

section
variable {α H : Type} {enc : TypeId × Value → H} {P : Program} {w : World} {spare : Nat → Bool} {held : Bool}
theorem open_rdeF {t e : TypeId} {fuel : Nat} {cs : List Value} {x : DataW H × List MemPlace} (E : Enc α) (Fine : α → Prop) (ht : P.underlying t = some (.slice e)) (hc : P.cellsOf e = E.k) (hk : 0 < E.k)
  (hel:∀n cs y,cs.length=E.k→DataW.trod enc P w 0 spare held n e cs=some y→∃x,E.R w (Under w.heap.size) cs x∧Fine x)
  (h:DataW.trod enc P w 0 spare held fuel t cs=some x):∃A n c l,cs=[.slice A n c]∧n≤c∧c≤maxLen∧RdE E w (Under w.heap.size) A n l∧∀x∈l,Fine x:=by
 rcases DataW.trod_slice ht h with ⟨rfl,-⟩|⟨a,len,cap,elems,rest,n,-,rfl,hx,-,hl,hcm,hlen,hcel,-,-⟩
 ·exact ⟨_,_,_,[],rfl,Nat.le_refl _,by simp [maxLen],RdE.none_ _ _ _ _,fun x hx=>by cases hx⟩
 ·have each:∀i,i < len→∃y,∃cs,w.cells? 0 (a.add (i*E.k)) E.k=some cs∧E.R w (Under w.heap.size) cs y∧Fine y:=by
   intro i hi
   have h1:=hcel i hi
   rw [hc,List.getElem?_eq_getElem (by omega),Option.bind_eq_some_iff] at h1
   obtain ⟨cs',hcs,hy⟩:=h1
   obtain ⟨x,hx,hf⟩:=hel _ _ _ (World.cells?_some hcs).2.1 hy
   exact ⟨x,cs',hcs,hx,hf⟩
  refine ⟨_,_,_,List.ofFn (fun i:Fin len=>Classical.choose (each i.1 i.2)),rfl,hl,hcm,⟨by simp,fun hn=>?_⟩,fun y hy=>?_⟩
  ·obtain ⟨y,cs0,hcs0,-⟩:=each 0 hn
   obtain ⟨-,hl0,h0⟩:=World.cells?_some hcs0
   have hcell0:=h0 0 hk
   rw [List.getElem?_eq_getElem (by omega)] at hcell0
   obtain ⟨b,off,spot⟩:=a
   have hspot:spot=none:=by simpa [Addr.add] using World.cell?_spot hcell0
   subst hspot
   have hadd:∀o i,(⟨b,o,none⟩:Addr).add i=⟨b,o+i,none⟩:=by
    intro o i
    unfold Addr.add
    split
    ·rename_i h0;subst h0;rfl
    ·rfl
   refine ⟨b,off,rfl,?_,fun i y hy=>?_⟩
   ·have:=block_lt_of_cell hcell0
    rw [hadd,hadd] at this
    exact this
   ·rw [List.getElem?_ofFn] at hy
    split at hy
    ·next hi =>
     obtain rfl:=Option.some.inj hy
     obtain ⟨cs,hcs,hr,-⟩:=Classical.choose_spec (each i hi)
     obtain ⟨-,hl1,h1⟩:=World.cells?_some hcs
     refine ⟨cs,hr,fun j v hj=>?_⟩
     have hjl:=(List.getElem?_eq_some_iff.1 hj).1
     have:=h1 j (by omega)
     rw [hadd,hadd,hj] at this
     rw [←this,Nat.add_assoc]
    ·cases hy
  ·rw [List.mem_ofFn] at hy
   obtain ⟨i,rfl⟩:=hy
   obtain ⟨cs,-,-,hf⟩:=Classical.choose_spec (each i.1 i.2)
   exact hf
end
section
variable {H : Type} {enc : TypeId × Value → H} {w : World} {spare : Nat → Bool} {held : Bool}
theorem cell_u8 {n:Nat} {c:Value} {y:DataW H×List MemPlace} (h:DataW.trod enc Tryz.prog w 0 spare held n 5 [c]=some y):∃b:UInt8,c=bv b:=by
 obtain ⟨a,e,hy,hw⟩:=DataW.trod_int Tryz.underlying5 h
 have hr:0≤a∧a≤255:=by
  simp [Lit.wf,IntKind.min,IntKind.max,IntKind.signed,IntKind.bits] at hw
  omega
 refine ⟨UInt8.ofNat a.toNat,?_⟩
 have:c=.int .u8 a:=by simpa using e
 rw [this]
 simp only [bv]
 congr 1
 simp
 omega
theorem one_cell {l:List Value} (h:l.length=1):∃c,l=[c]:=by
 match l,h with
 | [c],_=>exact ⟨c,rfl⟩
theorem thirteen {l:List Value} (h:l.length=13):∃a b c d e f g h i j k m n,l=[a,b,c,d,e,f,g,h,i,j,k,m,n]:=by
 match l,h with
 | [a,b,c,d,e,f,g,h,i,j,k,m,n],_=>exact ⟨a,b,c,d,e,f,g,h,i,j,k,m,n,rfl⟩
set_option maxRecDepth 100000 in
theorem trod_ent {fuel:Nat} {cs:List Value} {y:DataW H×List MemPlace} (hl:cs.length=3) (h:DataW.trod enc Tryz.prog w 0 spare held fuel 31 cs=some y):∃x:EntV,cs=cellsE x:=by
 obtain ⟨c0,c1,c2,rfl⟩:=three hl
 obtain ⟨xs,n,-,rfl,-,hlen,hp⟩:=DataW.trod_struct Tryz.underlying31 h
 match xs,hlen,hp with
 | [x0,x1,x2],_,hp =>
  obtain ⟨a0,rfl⟩:=cell_i64 (c:=c0) (hp 0 _ rfl)
  obtain ⟨a1,rfl⟩:=cell_i64 (c:=c1) (hp 1 _ rfl)
  obtain ⟨a2,rfl⟩:=cell_str (c:=c2) (hp 2 _ rfl)
  exact ⟨⟨a0,a1,a2⟩,rfl⟩
set_option maxRecDepth 100000 in
theorem trod_node {fuel:Nat} {cs:List Value} {y:DataW H×List MemPlace} (hl:cs.length=13) (h:DataW.trod enc Tryz.prog w 0 spare held fuel 51 cs=some y):∃x:NodV,NodR w (Under w.heap.size) cs x∧x.ents.length≤maxLen:=by
 obtain ⟨c0,c1,c2,c3,c4,c5,c6,c7,c8,c9,c10,c11,c12,rfl⟩:=thirteen hl
 obtain ⟨xs,n,-,-,-,hlen,hp⟩:=DataW.trod_struct Tryz.underlying51 h
 match xs,hlen,hp with
 | [x0,x1,x2,x3,x4,x5,x6],_,hp =>
  have p6:=hp 6 _ rfl
  obtain ⟨a0,rfl⟩:=cell_i64 (c:=c0) (hp 0 _ rfl)
  obtain ⟨a1,rfl⟩:=cell_i64 (c:=c1) (hp 1 _ rfl)
  obtain ⟨a2,rfl⟩:=cell_i64 (c:=c2) (hp 2 _ rfl)
  obtain ⟨a3,rfl⟩:=cell_i64 (c:=c3) (hp 3 _ rfl)
  obtain ⟨A,n1,d1,l1,e1,hn1,-,r1,-⟩:=open_rdeF (e:=5) (cs:=[c4]) Enc.byte (fun _=>True) Tryz.underlying44 (by kernel_rfl) (by decide) (fun _ cs _ hl hy=>by
   obtain ⟨c,rfl⟩:=one_cell hl
   obtain ⟨b,rfl⟩:=cell_u8 hy
   exact ⟨b,rfl,trivial⟩) (hp 4 _ rfl)
  obtain ⟨C,n2,d2,l2,e2,hn2,hm2,r2,-⟩:=open_rdeF (e:=31) (cs:=[c5]) entEn (fun _=>True) Tryz.underlying45 (by kernel_rfl) (by decide) (fun _ cs _ hl hy=>by
   obtain ⟨x,rfl⟩:=trod_ent hl hy
   exact ⟨x,⟨[_],[_,_],rfl,rfl,[_],[_],rfl,rfl,rfl⟩,trivial⟩) (hp 5 _ rfl)
  obtain ⟨ys,m,-,-,-,hyl,hq⟩:=DataW.trod_struct Tryz.underlying49 (cs:=[c6,c7,c8,c9,c10,c11,c12]) p6
  match ys,hyl,hq with
  | [y0,y1,y2,y3,y4],_,hq =>
   have q3:=hq 3 _ rfl
   obtain ⟨b0,rfl⟩:=cell_i64 (c:=c6) (hq 0 _ rfl)
   obtain ⟨b1,rfl⟩:=cell_i64 (c:=c7) (hq 1 _ rfl)
   obtain ⟨b2,rfl⟩:=cell_str (c:=c8) (hq 2 _ rfl)
   obtain ⟨b6,rfl⟩:=cell_i64 (c:=c12) (hq 4 _ rfl)
   obtain ⟨zs,k,-,-,-,hzl,hs⟩:=DataW.trod_struct Tryz.underlying47 (cs:=[c9,c10,c11]) q3
   match zs,hzl,hs with
   | [z0,z1,z2],_,hs =>
    obtain ⟨b3,rfl⟩:=cell_i64 (c:=c9) (hs 0 _ rfl)
    obtain ⟨b4,rfl⟩:=cell_i64 (c:=c10) (hs 1 _ rfl)
    obtain ⟨b5,rfl⟩:=cell_i64 (c:=c11) (hs 2 _ rfl)
    cases e1
    cases e2
    refine ⟨⟨a0,a1,a2,a3,l1,l2,⟨b0,b1,b2,b3,b4,b5,b6⟩⟩,⟨A,n1,d1,C,n2,d2,rfl,hn1,r1,hn2,r2⟩,?_⟩
    show l2.length≤maxLen
    rw [r2.1]
    omega
end
end Go.Proofs.YtpndfahgflgocaaGreatDoor

namespace Go.Proofs.YtpndfahgflgocaaGreatDoor
open Go.RowKit Go.Shelf Plain

def UpW (ff:List Int) (l:List WayV):Prop:=∀(j:Nat) (y:WayV),l[j]?=some y→y.up < (j:Int)∧(y.up < 0→y.ino∈ff)
theorem UpW.snoc {ff:List Int} {l:List WayV} {x:WayV} (h:UpW ff l) (hx:x.up < (l.length:Int)∧(x.up < 0→x.ino∈ff)):UpW ff (l++[x]):=by
 intro j y hy
 by_cases hj:j < l.length
 ·rw [List.getElem?_append_left hj] at hy
  exact h j y hy
 ·rw [List.getElem?_append_right (by omega)] at hy
  have hj0:j - l.length=0:=by have:=(List.getElem?_eq_some_iff.1 hy).1;simpa using this
  rw [hj0] at hy
  cases hy
  exact ⟨by omega,hx.2⟩
theorem plain_many {ns:List NodV} (h:ns.length≤24) (hp:∀x∈ns,PlainN x):Many ns∧∀x∈ns,x.data.length≤1000 :=
 ⟨⟨h,fun x hx=>(hp x hx).2.2.2.2.1⟩,fun x hx=>by have:=(hp x hx).2.2.2.1;omega⟩
end Go.Proofs.YtpndfahgflgocaaGreatDoor

namespace Go.Proofs.YtpndfahgflgocaaGreatDoor
open Go.RowKit Go.Shelf Plain

theorem own_lit0 (w:World) (e s:Nat) {B base:Nat} (h:w.heap.size=B) (hb:base≤B):(w.alloc (.cells #[] e)).ownsRow base e s (.slice (some ⟨B,0,none⟩) 0 0) 0 []:=by
 subst h
 have h:(w.alloc (.cells #[] e)).ownsRow w.heap.size e s (.slice (some ⟨w.heap.size,0,none⟩) 0 0) 0 []:=World.ownsRow_lit w #[] 0 (Nat.le_refl _) (by simp [maxLen]) (by simp)
 refine ⟨h.1,?_⟩
 rcases h.2 with h1|⟨g,cap,cur,h1,h2,h3⟩
 ·exact .inl h1
 ·exact .inr ⟨g,cap,cur,h1,Nat.le_trans hb h2,h3⟩
end Go.Proofs.YtpndfahgflgocaaGreatDoor

namespace Go.Proofs.YtpndfahgflgocaaGreatDoor
open Go.RowKit Go.Shelf Plain

structure GeoQ where
 (a b c d:Int)
def stkC (g:GeoQ) (U L:Value):List Value:=[.int .i64 g.a,.int .i64 g.b,.int .i64 g.c,.int .i64 g.d,U,L]
def layEn:Enc (List NodV):=Enc.list nodEn
def LayB (w:World) (B:Nat) (ns:List NodV) (e:Ending) (w':World):Prop:=∃A n c,e=.returned (.agg #[.slice A n c])∧n≤c∧RdE nodEn w' (Under B) A n ns∧Below w.heap.size w w'
theorem lay_out {ls:List (List NodV)} {la:Int} (h:¬(1≤la∧la≤(ls.length:Int))):layL ls la=[]:=by unfold layL;rw [if_neg h]
theorem lay_in {ls:List (List NodV)} {la:Int} (h:1≤la∧la≤(ls.length:Int)):∃(j:Nat) (ns:List NodV),la=(j:Int)+1∧ls[j]?=some ns∧layL ls la=ns:=by
 obtain ⟨j,hj⟩:=Int.eq_ofNat_of_zero_le (show 0≤la - 1 by omega)
 have hl:j < ls.length:=by omega
 refine ⟨j,ls[j],by omega,List.getElem?_eq_getElem hl,?_⟩
 unfold layL
 rw [if_pos h,hj]
 simp [hl]
theorem slc_one (A:Option Addr) (n c:Nat):∀v∈[Value.slice A n c],v.oneCell'=true:=by simp [Value.oneCell']
set_option maxRecDepth 100000 in
theorem stk_agg:∀w,(isAgg 29).run Tryz.prog w=.ok true w:=fun w=>by kernel_rfl
set_option maxRecDepth 100000 in
theorem stk_size:∀w,(Go.sizeOf 29).run Tryz.prog w=.ok 6 w:=fun w=>by kernel_rfl
set_option maxRecDepth 100000 in
theorem plc_agg:∀w,(isAgg 75).run Tryz.prog w=.ok true w:=fun w=>by kernel_rfl
set_option maxRecDepth 100000 in
theorem plc_size:∀w,(Go.sizeOf 75).run Tryz.prog w=.ok 2 w:=fun w=>by kernel_rfl
set_option maxRecDepth 100000 in
theorem brn_agg:∀w,(isAgg 26).run Tryz.prog w=.ok true w:=fun w=>by kernel_rfl
set_option maxRecDepth 100000 in
theorem brn_size:∀w,(Go.sizeOf 26).run Tryz.prog w=.ok 1 w:=fun w=>by kernel_rfl
set_option maxRecDepth 100000 in
set_option maxHeartbeats 1600000 in
theorem Beneath_any {g:GeoQ} {AU AL:Option Addr} {nU cU nL cL:Nat} {ls:List (List NodV)} {la:Int} {B:Nat} (w:World) (h:RdE layEn w (Under B) AL nL ls) (hB:B≤w.heap.size) (hm:ls.length≤100) :
  Calls Tryz.prog 119 #[.agg (stkC g (.slice AU nU cU) (.slice AL nL cL)).toArray,.int .i64 la] w (LayB w B (layL ls la)):=by
 obtain ⟨r0,r1,hb2,hs2⟩:=rows2 w (stkC g (.slice AU nU cU) (.slice AL nL cL)) [.slice none 0 0] 29 26
 obtain ⟨W3,hW3⟩:∃W3,(w.alloc (.cells (stkC g (.slice AU nU cU) (.slice AL nL cL)).toArray 29)).alloc (.cells [Value.slice none 0 0].toArray 26)=W3:=⟨_,rfl⟩
 rw [hW3] at r0 r1 hb2 hs2
 have hW3':(w.alloc (.cells #[.int .i64 g.a,.int .i64 g.b,.int .i64 g.c,.int .i64 g.d,.slice AU nU cU,.slice AL nL cL] 29)).alloc (.cells #[.slice none 0 0] 26)=W3:=hW3
 have hl:=h.1
 have q5:W3.cell? ⟨w.heap.size,5,none⟩=some (.slice AL nL cL):=r0.cell 5
 have HZ:=hide r1
 have HB3:=hide hb2
 have hs3:w.heap.size≤W3.heap.size:=hb2.size
 have HL:=hide (h.under hb2 hB)
 unfold stkC
 by_cases h1:la≤0
 ·have e:layL ls la=[]:=lay_out (by omega)
  have d1:decide (la≤0)=true:=by simpa using h1
  rw [e]
  clear h r0 r1 hb2 hW3 e h1
  go_enter Tryz.func119,Tryz.ntmps119
  go_wp2_with (refine wpList_storeW rfl 26 (.tmp 4) (.tmp 14) rfl 1 brn_size (w.heap.size+1) 26 rfl [.slice none 0 0] [.slice none 0 0] rfl HZ.out rfl rfl (slc_one _ _ _) ?_;intro w9 hr9 hg9 hs9;have HR9:=hide hr9;have HB9:=hide (HB3.out.grown hg9 HB3.out.size (pu4 (by omega)));clear hr9 hg9 hs9)
  exact bodyPost_ret (res_cell Tryz.results119 rfl brn_agg brn_size HR9.out rfl) rfl ⟨none,0,0,rfl,Nat.le_refl _,RdE.none_ _ _ _ _,HB9.out⟩
 ·have d1:decide (la≤0)=false:=by simpa using h1
  by_cases h2:(nL:Int) < la
  ·have e:layL ls la=[]:=lay_out (by omega)
   have d2:decide ((nL:Int) < la)=true:=by simpa using h2
   rw [e]
   clear h r0 r1 hb2 hW3 e h1 h2
   go_enter Tryz.func119,Tryz.ntmps119
   go_wp2_with (refine wpList_storeW rfl 26 (.tmp 4) (.tmp 14) rfl 1 brn_size (w.heap.size+1) 26 rfl [.slice none 0 0] [.slice none 0 0] rfl HZ.out rfl rfl (slc_one _ _ _) ?_;intro w9 hr9 hg9 hs9;have HR9:=hide hr9;have HB9:=hide (HB3.out.grown hg9 HB3.out.size (pu4 (by omega)));clear hr9 hg9 hs9)
   exact bodyPost_ret (res_cell Tryz.results119 rfl brn_agg brn_size HR9.out rfl) rfl ⟨none,0,0,rfl,Nat.le_refl _,RdE.none_ _ _ _ _,HB9.out⟩
  ·have d2:decide ((nL:Int) < la)=false:=by simpa using h2
   obtain ⟨j,ns,hla,hns,e⟩:=lay_in (ls:=ls) (la:=la) (by omega)
   rw [e]
   obtain ⟨bL,oL,hAL,hbL,A2,n2,c2,hcL,hc2,hN2⟩:=RdE.get_list (F:=nodEn) HL.out hns
   have hjn:j < nL:=by omega
   have HNS:=hide hN2
   subst hla
   subst hAL
   have hw1:IntKind.i64.wrap ((j:Int)+1 - 1)=(j:Int):=by rw [show (j:Int)+1 - 1=j from by omega];exact IntWalk.i64_in _ (by omega)
   have hw2:IntKind.i64.wrap (j:Int)=(j:Int):=IntWalk.i64_in _ (by omega)
   have hjl:(j:Int) < (nL:Int):=by omega
   clear h r0 r1 hb2 hW3 e h1 h2 hN2 hns hl
   go_enter Tryz.func119,Tryz.ntmps119
   go_wp2_with (first|fail|(refine wpList_storeW rfl 26 (.tmp 4) (.tmp 20) rfl 1 brn_size (w.heap.size+1) 26 rfl [.slice none 0 0] [.slice A2 n2 c2] rfl HZ.out rfl rfl (slc_one _ _ _) ?_;intro w9 hr9 hg9 hs9;have HR9:=hide hr9;have HB9:=hide (HB3.out.grown hg9 HB3.out.size (pu4 (by omega)));have HN9:=hide (HNS.out.mono (show Kept (Under B) W3 w9 from fun b hb=>hg9.block b (by unfold Under at hb;omega) (fun e=>by have:=Option.some.inj e;unfold Under at hb;omega)) (fun _ h=>h));clear hr9 hg9 hs9))
   exact bodyPost_ret (res_cell Tryz.results119 rfl brn_agg brn_size HR9.out rfl) rfl ⟨A2,n2,c2,rfl,hc2,HN9.out,HB9.out⟩
theorem Beneath_e {g:GeoQ} {AU AL:Option Addr} {nU cU nL cL:Nat} {ls:List (List NodV)} {ns:List NodV} {la:Int} {B:Nat} (hx:layL ls la=ns) (w:World) (h:RdE layEn w (Under B) AL nL ls) (hB:B≤w.heap.size) (hm:ls.length≤100) :
  Calls Tryz.prog 119 #[.agg (stkC g (.slice AU nU cU) (.slice AL nL cL)).toArray,.int .i64 la] w (LayB w B ns):=by rw [←hx];exact Beneath_any w h hB hm
theorem Of_e {A:Option Addr} {B:Nat} {n c:Nat} {ns:List NodV} {i:Int} {x:NodV} (hx:nodAt ns i=x) (w:World) (h:RdE nodEn w (Under B) A n ns) (hB:B≤w.heap.size) (hm:ns.length≤100000):Calls Tryz.prog 36 #[.agg #[.slice A n c],.int .i64 i] w (NodRet w B x):=by rw [←hx];exact Of_any w h hB hm
theorem layL_len {ls:List (List NodV)} (h:∀ns∈ls,ns.length≤1000) (la:Int):(layL ls la).length≤1000:=by
 unfold layL
 split
 ·cases hx:ls[(la - 1).toNat]? with
  | none=>simp
  | some ns=>exact h ns (List.mem_of_getElem? hx)
 ·simp
set_option maxRecDepth 100000 in
set_option maxHeartbeats 4000000 in
theorem NLower_any {g:GeoQ} {AU AL:Option Addr} {nU cU nL cL:Nat} {ls:List (List NodV)} {la i:Int} {B:Nat} (w:World) (h:RdE layEn w (Under B) AL nL ls) (hB:B≤w.heap.size) (hm:ls.length≤100) (hm2:∀ns∈ls,ns.length≤1000) :
  Calls Tryz.prog 93 #[.agg (stkC g (.slice AU nU cU) (.slice AL nL cL)).toArray,.agg #[.int .i64 la,.int .i64 i]] w (NodRet w B (lowAt ls la i)):=by
 obtain ⟨r0,r1,r2,hb3,hs3⟩:=rows3 w (stkC g (.slice AU nU cU) (.slice AL nL cL)) [.int .i64 la,.int .i64 i] (nodC nod0 (.slice none 0 0) (.slice none 0 0)) 29 75 51
 obtain ⟨W3,hW3⟩:∃W3,((w.alloc (.cells (stkC g (.slice AU nU cU) (.slice AL nL cL)).toArray 29)).alloc (.cells [Value.int .i64 la,.int .i64 i].toArray 75)).alloc (.cells (nodC nod0 (.slice none 0 0) (.slice none 0 0)).toArray 51)=W3:=⟨_,rfl⟩
 rw [hW3] at r0 r1 r2 hb3 hs3
 have hW3':((w.alloc (.cells #[.int .i64 g.a,.int .i64 g.b,.int .i64 g.c,.int .i64 g.d,.slice AU nU cU,.slice AL nL cL] 29)).alloc (.cells #[.int .i64 la,.int .i64 i] 75)).alloc (.cells #[.int .i64 0,.int .i64 0,.int .i64 0,.int .i64 0,.slice none 0 0,.slice none 0 0,.int .i64 0,.int .i64 0,.string ⟨#[]⟩,.int .i64 0,.int .i64 0,.int .i64 0,.int .i64 0] 51)=W3:=hW3
 have HQ0:=hide (fun W (hb:Below W3.heap.size W3 W)=>show W.cell? ⟨w.heap.size+1,0,none⟩=some (.int .i64 la) from (r1.on hb).cell 0)
 have HQ1:=hide (fun W (hb:Below W3.heap.size W3 W)=>show W.cell? ⟨w.heap.size+1,1,none⟩=some (.int .i64 i) from (r1.on hb).cell 1)
 have R0:=hide r0
 have R2:=hide r2
 have HB3:=hide hb3
 have hs3:w.heap.size≤W3.heap.size:=hb3.size
 have HL:=hide (h.under hb3 hB)
 have hlay:=layL_len hm2 la
 rw [←lay_at]
 obtain ⟨x,hx⟩:∃x,nodAt (layL ls la) i=x:=⟨_,rfl⟩
 obtain ⟨ly,hly⟩:∃ly,layL ls la=ly:=⟨_,rfl⟩
 rw [hly] at hx hlay
 have HLY:=hide hly
 unfold stkC
 clear h r0 r1 r2 hb3 hW3
 rw [hly,hx]
 have HX:=hide hx
 clear hx hly
 go_enter Tryz.func93,Tryz.ntmps93
 go_wp2_with fail
 clear hW3'
 refine wp_region_planL (fun w'=>Below W3.heap.size W3 w') [(0,true),(1,true),(2,true),(4,true),(5,true),(3,false),(6,false)] 7 (by kernel_rfl) (by kernel_rfl) (by kernel_rfl) (by kernel_rfl) (by kernel_rfl) rfl (fun _ _ _ _ _ h=>h) (below_drew (below_self W3)) (fun hHeld=>?_)
 simp only [planOps,List.filterMap_cons,List.filterMap_nil,List.getElem?_toArray,List.getElem?_cons_succ,List.getElem?_cons_zero,Option.map_some]
 refine wpPlan_take (v:=?_) (by kernel_rfl) (fun wS hSw=>?_) ?_
 rotate_left
 ·refine execOp_load (x:=.tmp 2) (k:=6) (g:=w.heap.size) (off:=0) (cs:=stkC g (.slice AU nU cU) (.slice AL nL cL)) ?_ stk_agg stk_size ?_ (fun j v hv=>by rw [Nat.zero_add];exact ((R0.out.on hSw).cell j).trans hv) rfl <;> rfl
 (try simp only [Act.put,pu1,pu2,pu3])
 refine wpPlan_take (v:=?_) (by kernel_rfl) (fun wS hSw=>?_) ?_
 rotate_left
 ·(try dsimp only at hSw);go_simp;(try with_reducible rfl)
 (try simp only [Act.put,pu1,pu2,pu3])
 refine wpPlan_take (v:=?_) (by kernel_rfl) (fun wS hSw=>?_) ?_
 rotate_left
 ·have qx:=HQ0.out wS hSw;go_simp;(try with_reducible rfl)
 (try simp only [Act.put,pu1,pu2,pu3])
 refine wpPlan_take (v:=?_) (by kernel_rfl) (fun wS hSw=>?_) ?_
 rotate_left
 ·(try dsimp only at hSw);go_simp;(try with_reducible rfl)
 (try simp only [Act.put,pu1,pu2,pu3])
 refine wpPlan_take (v:=?_) (by kernel_rfl) (fun wS hSw=>?_) ?_
 rotate_left
 ·have qx:=HQ1.out wS hSw;go_simp;(try with_reducible rfl)
 (try simp only [Act.put,pu1,pu2,pu3])
 refine wpPlan_call (by kernel_rfl) (fun K hK=>?_)
 have hOld:=hide hHeld
 clear hHeld
 go_simp
 go_at_call 119
 refine (Beneath_e HLY.out (B:=B) _ (HL.out.under hOld.out (by omega)) (by have:=hOld.out.size;omega) hm).mono ?_
 rintro e w' ⟨A1,n1,c1,rfl,e2,e3,hbel⟩
 have HN:=hide e3
 clear e3
 refine hK.out _ _ (hOld.out.trans (hbel.mono hOld.out.size)) (fun hHeld=>?_)
 clear hK K
 (try simp only [Act.put,pu1,pu2,pu3])
 refine wpPlan_call (by kernel_rfl) (fun K hK=>?_)
 have hOld:=hide hHeld
 clear hHeld
 go_simp
 go_at_call 36
 refine (Of_e HX.out (B:=B) _ HN.out (by have:=hOld.out.size;omega) (by omega)).mono ?_
 rintro e w' ⟨A2,n2,c2,C2,m2,d2,rfl,f2,f3,f4,f5,hbel⟩
 have E3:=hide f3
 have E5:=hide f5
 clear f3 f5
 refine hK.out _ _ (hOld.out.trans (hbel.mono hOld.out.size)) (fun hHeld=>?_)
 clear hK K
 (try simp only [Act.put,pu1,pu2,pu3])
 refine wpPlan_end ?_
 refine postL_go rfl (by kernel_rfl) ?_
 have R9:=hide (R2.out.on hHeld)
 have HBX:=hide (HB3.out.trans (hHeld.mono hs3))
 have hsX:=hHeld.size
 clear hHeld
 refine wp_storeC 51 (.tmp 4) (.tmp 11) rfl 13 nod_size (w.heap.size+1+1) 0 51 rfl (nodC nod0 (.slice none 0 0) (.slice none 0 0)) (nodC x (.slice A2 n2 c2) (.slice C2 m2 d2)) rfl R9.out rfl (by exact Nat.le_refl _) (nodC_one _ _ _ _ _ _ _) ?_
 intro w9 hr9 hg9 hs9
 have e9:splice (nodC nod0 (.slice none 0 0) (.slice none 0 0)) 0 (nodC x (.slice A2 n2 c2) (.slice C2 m2 d2))=nodC x (.slice A2 n2 c2) (.slice C2 m2 d2):=by simp [splice,nodC]
 rw [e9] at hr9
 have HR9:=hide hr9
 have HG9:=hide hg9
 clear hr9 hg9 e9
 (try simp only [Act.put])
 go_wp2_with fail
 have hk:Kept (Under B) w' w9:=fun b hb=>HG9.out.block b (by unfold Under at hb;omega) (fun e=>by have:=Option.some.inj e;unfold Under at hb;omega)
 exact bodyPost_ret (res_cell Tryz.results93 rfl nod_agg nod_size HR9.out rfl) rfl ⟨A2,n2,c2,C2,m2,d2,rfl,f2,E3.out.mono hk (fun _ h=>h),f4,E5.out.mono hk (fun _ h=>h),HBX.out.grown HG9.out (by omega) (pu4 (by omega))⟩
end Go.Proofs.YtpndfahgflgocaaGreatDoor

