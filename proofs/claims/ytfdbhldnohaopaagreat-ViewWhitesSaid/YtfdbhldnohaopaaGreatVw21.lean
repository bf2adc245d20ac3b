import Derived.Test.YtfdbhldnohaopaaGreatVw10
import Derived.Test.YtfdbhldnohaopaaGreatVw20
import Derived.Test.YtfdbhldnohaopaaGreatVw3
import Derived.Test.YtfdbhldnohaopaaGreatVw17

namespace Go.Proofs.YtfdbhldnohaopaaGreat.Plain
def stepJ (s:List UInt8×Bool) (x:List UInt8):List UInt8×Bool:=((if s.2=true then s.1 else s.1++[47])++x,false)
def joinS (l:List (List UInt8)):List UInt8:=(l.foldl stepJ ([47],true)).1
def totL (l:List (List UInt8)):Nat:=(l.map fun x=>x.length+1).sum
theorem totL_snoc (l:List (List UInt8)) (x:List UInt8):totL (l++[x])=totL l+(x.length+1):=by simp [totL]
theorem totL_append (a b:List (List UInt8)):totL (a++b)=totL a+totL b:=by simp [totL]
theorem totL_take (l:List (List UInt8)) (k:Nat):totL (l.take k)≤totL l:=by
 have h:=totL_append (l.take k) (l.drop k)
 rw [List.take_append_drop] at h
 omega
theorem flagJ (l:List (List UInt8)):(l.foldl stepJ ([47],true)).2=decide (l.length=0):=by
 suffices h:∀(l:List (List UInt8)) (s:List UInt8×Bool),(l.foldl stepJ s).2=(s.2&&decide (l.length=0)) from by rw [h];simp
 intro l
 induction l with
 | nil=>intro s;simp
 | cons x r ih=>intro s;rw [List.foldl_cons,ih];simp [stepJ]
theorem joinS_snoc (l:List (List UInt8)) (x:List UInt8):joinS (l++[x])=(if l.length=0 then joinS l else joinS l++[47])++x:=by
 unfold joinS
 rw [List.foldl_append,List.foldl_cons,List.foldl_nil]
 show (if (l.foldl stepJ ([47],true)).2=true then _ else _)++x=_
 rw [flagJ]
 simp
theorem joinS_length (l:List (List UInt8)):(joinS l).length≤1+totL l:=by
 suffices h:∀(l:List (List UInt8)) (s:List UInt8×Bool),((l.foldl stepJ s).1).length≤s.1.length+totL l from h l ([47],true)
 intro l
 induction l with
 | nil=>intro s;simp
 | cons x r ih =>
  intro s
  rw [List.foldl_cons]
  have h1:=ih (stepJ s x)
  have h2:(stepJ s x).1.length≤s.1.length+(x.length+1):=by
   unfold stepJ
   simp only [List.length_append]
   split <;> simp <;> omega
  have h3:totL (x::r)=(x.length+1)+totL r:=by simp [totL]
  omega
def stepP (o:List (List UInt8)) (c:UInt8):List (List UInt8):=if c=47 then o++[[]] else o.set (o.length - 1) (o.getD (o.length - 1) []++[c])
def partsTo (s:List UInt8) (j:Nat):List (List UInt8):=((s.take j).drop 1).foldl stepP [[]]
def partsS (s:List UInt8):List (List UInt8):=(s.drop 1).foldl stepP [[]]
theorem partsTo_all {s:List UInt8} {j:Nat} (h:s.length≤j):partsTo s j=partsS s:=by
 unfold partsTo partsS
 rw [List.take_of_length_le h]
theorem stepP_length (o:List (List UInt8)) (c:UInt8):(stepP o c).length=if c=47 then o.length+1 else o.length:=by
 unfold stepP
 split <;> simp
theorem partsTo_len (s:List UInt8) (j:Nat):1≤(partsTo s j).length∧(partsTo s j).length≤1+j∧∀y∈partsTo s j,y.length≤j:=by
 unfold partsTo
 suffices h:∀(r:List UInt8) (o:List (List UInt8)) (b:Nat),1≤o.length→(∀y∈o,y.length≤b) →
   1≤(r.foldl stepP o).length∧(r.foldl stepP o).length≤o.length+r.length∧∀y∈r.foldl stepP o,y.length≤b+r.length by
  have hl:((s.take j).drop 1).length≤j:=by simp;omega
  obtain ⟨h1,h2,h3⟩:=h ((s.take j).drop 1) [[]] 0 (by simp) (by simp)
  refine ⟨h1,by simp only [List.length_singleton] at h2;omega,fun y hy=>?_⟩
  have:=h3 y hy
  omega
 intro r
 induction r with
 | nil=>intro o b h1 h2;exact ⟨h1,by simp,fun y hy=>by have:=h2 y hy;simpa using this⟩
 | cons c r ih =>
  intro o b h1 h2
  rw [List.foldl_cons]
  have h3:∀y∈stepP o c,y.length≤b+1:=by
   intro y hy
   unfold stepP at hy
   split at hy
   ·rw [List.mem_append] at hy
    rcases hy with hy|hy
    ·have:=h2 y hy;omega
    ·simp at hy;subst hy;simp
   ·rcases List.mem_or_eq_of_mem_set hy with hy|hy
    ·have:=h2 y hy;omega
    ·subst hy
     have hm:o.getD (o.length - 1) []∈o:=by
      simp only [List.getD]
      rw [List.getElem?_eq_getElem (by omega)]
      exact List.getElem_mem (by omega)
     have:=h2 _ hm
     rw [List.length_append,List.length_singleton]
     omega
  have h4:=stepP_length o c
  obtain ⟨a1,a2,a3⟩:=ih (stepP o c) (b+1) (by rw [h4];split <;> omega) h3
  refine ⟨a1,?_,fun y hy=>?_⟩
  ·rw [List.length_cons]
   have:(stepP o c).length≤o.length+1:=by rw [h4];split <;> omega
   omega
  ·have:=a3 y hy
   rw [List.length_cons]
   omega
theorem partsS_len (s:List UInt8):(partsS s).length≤1+s.length∧∀y∈partsS s,y.length≤s.length:=by
 have h:=partsTo_len s s.length
 rw [partsTo_all (Nat.le_refl _)] at h
 exact h.2
def headB (s:List UInt8):Bool:=match s with|[]=>false|c::_=>c==47
def splitB (s:List UInt8):Bool:=s==[47]||(headB s&&(partsS s).all nameB)
def splitS (s:List UInt8):List (List UInt8):=if s=[47] then [] else if (headB s&&(partsS s).all nameB)=true then partsS s else []
def stepC (o:Option (List (List UInt8))) (y:List UInt8):Option (List (List UInt8)) :=
 match o with
 | none=>none
 | some o=>if y=[]∨y=[46] then some o else if y=[46,46] then (if o=[] then none else some o.dropLast) else if nameB y=true then some (o++[y]) else none
def leftS (l:List (List UInt8)):Option (List (List UInt8)):=l.foldl stepC (some [])
theorem leftS_snoc (l:List (List UInt8)) (y:List UInt8):leftS (l++[y])=stepC (leftS l) y:=by simp [leftS]
def cleanB (s:List UInt8):Bool:=headB s&&(leftS (partsS s)).isSome
def cleanS (s:List UInt8):List UInt8:=if headB s=true then (match leftS (partsS s) with|none=>[]|some o=>joinS o) else []
theorem leftS_len (l:List (List UInt8)):∀o,leftS l=some o→o.length≤l.length∧totL o≤totL l:=by
 suffices h:∀(l:List (List UInt8)) (o0:List (List UInt8)),∀o,l.foldl stepC (some o0)=some o→o.length≤o0.length+l.length∧totL o≤totL o0+totL l by
  intro o ho
  have:=h l [] o ho
  simpa [totL] using this
 intro l
 induction l with
 | nil=>intro o0 o ho;cases ho;exact ⟨Nat.le_refl _,Nat.le_refl _⟩
 | cons y r ih =>
  intro o0 o ho
  rw [List.foldl_cons] at ho
  have hy:totL (y::r)=(y.length+1)+totL r:=by simp [totL]
  rw [hy,List.length_cons]
  unfold stepC at ho
  simp only at ho
  split at ho
  ·have:=ih _ _ ho;omega
  ·split at ho
   ·split at ho
    ·exfalso
     clear ih hy
     induction r with
     | nil=>cases ho
     | cons z r ih2=>exact ih2 ho
    ·have h1:=ih _ _ ho
     have h2:totL o0.dropLast≤totL o0:=by rw [List.dropLast_eq_take];exact totL_take _ _
     rw [List.length_dropLast] at h1
     omega
   ·split at ho
    ·have h1:=ih _ _ ho
     rw [totL_snoc,List.length_append,List.length_singleton] at h1
     omega
    ·exfalso
     clear ih hy
     induction r with
     | nil=>cases ho
     | cons z r ih2=>exact ih2 ho
theorem totL_le {l:List (List UInt8)} {b:Nat} (h:∀y∈l,y.length≤b):totL l≤l.length*(b+1):=by
 induction l with
 | nil=>simp [totL]
 | cons y r ih =>
  have h1:=ih (fun z hz=>h z (List.mem_cons_of_mem _ hz))
  have h2:=h y (List.mem_cons_self)
  have:totL (y::r)=(y.length+1)+totL r:=by simp [totL]
  rw [this,List.length_cons,Nat.add_mul]
  omega
def redL (s:List UInt8):List (List UInt8):=if 24 < s.length then [] else if headB s=true then splitS s else if nameB s=true then [s] else []
def redA (s:List UInt8):Bool:=if 24 < s.length then false else if headB s=true then splitB s else false
def redB (s:List UInt8):Bool:=if 24 < s.length then false else if headB s=true then splitB s else nameB s
end Go.Proofs.YtfdbhldnohaopaaGreat.Plain

namespace Go.Proofs.YtfdbhldnohaopaaGreat
open Go.RowKit Plain

def opqD (x:NodV):Bool:=decide (x.k=1)&&opq x
abbrev ViewV:=Int×List (Int×Int)
def benV (ls:List (List NodV)) (vl:List (Int×Int)) (nm:List UInt8):List (Int×Int):=if (findL ls nm vl []).1=1 then (findL ls nm vl []).2 else []
def rootV (up:List NodV) (ls:List (List NodV)):ViewV:=(if (nodAt up 1).k=1 then 1 else 0,if opqD (nodAt up 1)=true then [] else rootsL ls 0)
def redV (ls:List (List NodV)) (vl:List (Int×Int)) (r:List UInt8):List (Int×Int):=if redB r=true then (if redA r=true then (lookL ls (rootsL ls 0) (redL r)).getD [] else benV ls vl ((redL r).headD [])) else []
def hasR (x:NodV):Bool:=decide (x.att.h / 2 % 2=1)
def partV (up:List NodV) (ls:List (List NodV)) (vl:List (Int×Int)) (i:Int) (nm:List UInt8):List (Int×Int):=if (nodAt up i).k=1 then (if opq (nodAt up i)=true then [] else if hasR (nodAt up i)=true then redV ls vl (nodAt up i).att.r else benV ls vl nm) else []
abbrev StepV:=Int×ViewV×(Int×Int)
def noStep:StepV:=(0,(0,[]),(0,0))
def lowStep (ls:List (List NodV)) (vl:List (Int×Int)) (nm:List UInt8):StepV:=if (findL ls nm vl []).1=0 then noStep else if (findL ls nm vl []).1=1 then (1,(0,(findL ls nm vl []).2),(findL ls nm vl []).2.headD (0,0)) else ((findL ls nm vl []).1,(0,[]),(findL ls nm vl []).2.headD (0,0))
def upStep (up:List NodV) (ls:List (List NodV)) (vl:List (Int×Int)) (nm:List UInt8) (e:EntV):StepV:=if (nodAt up e.ino).k=1 then (1,(e.ino,partV up ls vl e.ino nm),(0,e.ino)) else if (nodAt up e.ino).k=4 then noStep else ((nodAt up e.ino).k,(0,[]),(0,e.ino))
def stepV (up:List NodV) (ls:List (List NodV)) (v:ViewV) (nm:List UInt8):StepV:=match firstB up v.1 nm with
 | some e=>upStep up ls v.2 nm e
 | none=>lowStep ls v.2 nm
def allV (up:List NodV) (ls:List (List NodV)) (v:ViewV):List (List UInt8):=namesL ls v.2++(entB up v.1).map EntV.name
def hidV (up:List NodV) (ls:List (List NodV)) (v:ViewV) (nm:List UInt8):Bool:=decide ((stepV up ls v nm).1=0)
def namesV (up:List NodV) (ls:List (List NodV)) (v:ViewV):List (List UInt8):=(sortS (allV up ls v)).filter (fun x=>!hidV up ls v x)
def PlainX (x:NodV):Prop:=True∧(0≤x.k∧x.k≤4)∧(0≤x.att.h∧x.att.h≤31)∧x.data.length≤300∧x.ents.length≤17∧x.att.r.length≤40∧True
theorem PlainN.toX {x:NodV} (h:PlainN x):PlainX x:=⟨trivial,h.2.1,h.2.2.1,h.2.2.2.1,Nat.le_succ_of_le h.2.2.2.2.1,h.2.2.2.2.2.1,trivial⟩
theorem nodAt_plainX {ns:List NodV} (h:∀x∈ns,PlainX x) (i:Int):PlainX (nodAt ns i):=by
 unfold nodAt
 split
 ·cases hx:ns[(i - 1).toNat]? with
  | none=>exact plain0.toX
  | some x=>exact h x (List.mem_of_getElem? hx)
 ·exact plain0.toX
theorem entB_lenX {ns:List NodV} (h:∀x∈ns,PlainX x) (i:Int):(entB ns i).length≤17:=by
 unfold entB
 split
 ·exact (nodAt_plainX h i).2.2.2.2.1
 ·simp
theorem red_one {r:List UInt8} (h1:redB r=true) (h2:redA r=false):redL r=[r]:=by
 unfold redB at h1
 unfold redA at h2
 unfold redL
 split
 ·rename_i h
  rw [if_pos h] at h1
  simp at h1
 ·rename_i h
  rw [if_neg h] at h1 h2
  by_cases hh:headB r=true
  ·rw [if_pos hh] at h1 h2
   rw [h1] at h2
   simp at h2
  ·rw [if_neg hh] at h1 ⊢
   rw [if_pos h1]
theorem redL_len (r:List UInt8):(redL r).length≤25:=by
 unfold redL
 split
 ·simp
 ·split
  ·have:=(partsS_len r).1
   unfold splitS
   split
   ·simp
   ·split
    ·omega
    ·simp
  ·split <;> simp
end Go.Proofs.YtfdbhldnohaopaaGreat

namespace Go.Proofs.YtfdbhldnohaopaaGreat
open Go.RowKit Plain

def whiteN:NodV:=⟨4,0,0,0,[],[],att0⟩
def upX (up:List NodV) (nm:List UInt8):List NodV:=match up with
 | []=>[]
 | x::r=>{x with ents:=⟨0,r.length+2,nm⟩::x.ents}::(r++[whiteN])
theorem upX_att {up:List NodV} (h:up≠[]) (nm:List UInt8) (i:Int) :
  nodAt (upX up nm) i=if i=up.length+1 then whiteN else if i=1 then {nodAt up 1 with ents:=⟨0,up.length+1,nm⟩::(nodAt up 1).ents} else nodAt up i:=by
 cases up with
 | nil=>exact absurd rfl h
 | cons x r =>
  have hl:((x::r).length:Int)=r.length+1:=by simp
  have h1:nodAt (x::r) 1=x:=by
   unfold nodAt
   rw [if_pos (by rw [hl];omega)]
   rfl
  rw [h1,hl]
  by_cases hw:i=r.length+1+1
  ·rw [if_pos hw]
   unfold nodAt upX
   have:(({x with ents:=⟨0,r.length+2,nm⟩::x.ents}::(r++[whiteN])).length:Int)=r.length+2:=by simp;omega
   rw [if_pos (by rw [this];omega),hw,show ((r.length:Int)+1+1 - 1).toNat=r.length+1 from by omega]
   simp
  ·rw [if_neg hw]
   by_cases h2:i=1
   ·rw [if_pos h2,h2]
    unfold nodAt upX
    rw [if_pos (by simp;omega)]
    show ({x with ents:=⟨0,(r.length:Int)+2,nm⟩::x.ents}:NodV)=_
    rw [show (r.length:Int)+2=r.length+1+1 from by omega]
   ·rw [if_neg h2]
    unfold nodAt upX
    by_cases h3:1≤i∧i≤((x::r).length:Int)
    ·rw [if_pos h3,if_pos (by rw [hl] at h3;simp;omega)]
     rw [hl] at h3
     obtain ⟨k,hk⟩:∃k:Nat,(i - 1).toNat=k+1:=⟨(i - 1).toNat - 1,by omega⟩
     rw [hk,List.getElem?_cons_succ,List.getElem?_cons_succ,List.getElem?_append_left (by omega)]
    ·rw [if_neg h3,if_neg (by rw [hl] at h3;simp;omega)]
theorem upX_k {up:List NodV} (h:up≠[]) (nm:List UInt8) {i:Int} (hi:i≠up.length+1):(nodAt (upX up nm) i).k=(nodAt up i).k:=by
 rw [upX_att h,if_neg hi]
 split
 ·rename_i h1;rw [h1]
 ·rfl
theorem upX_root {up:List NodV} (h:up≠[]) (ls:List (List NodV)) (nm:List UInt8):rootV (upX up nm) ls=rootV up ls:=by
 have hl:0 < up.length:=List.length_pos_iff.2 h
 have e:nodAt (upX up nm) 1={nodAt up 1 with ents:=⟨0,up.length+1,nm⟩::(nodAt up 1).ents}:=by
  rw [upX_att h,if_neg (by omega),if_pos rfl]
 unfold rootV
 rw [e]
 rfl
theorem upX_ents {up:List NodV} (h:up≠[]) (hd:(nodAt up 1).k=1) (nm:List UInt8):entB (upX up nm) 1=⟨0,up.length+1,nm⟩::entB up 1:=by
 have hl:0 < up.length:=List.length_pos_iff.2 h
 have e:nodAt (upX up nm) 1={nodAt up 1 with ents:=⟨0,up.length+1,nm⟩::(nodAt up 1).ents}:=by
  rw [upX_att h,if_neg (by omega),if_pos rfl]
 unfold entB
 rw [e,if_pos hd,if_pos (show (nodAt up 1).k=1 from hd)]
theorem upX_name {up:List NodV} (h:up≠[]) (hd:(nodAt up 1).k=1) (ls:List (List NodV)) (nm:List UInt8):(stepV (upX up nm) ls (rootV (upX up nm) ls) nm).1=0:=by
 have hw:nodAt (upX up nm) (up.length+1)=whiteN:=by rw [upX_att h,if_pos rfl]
 rw [upX_root h]
 have h1:(rootV up ls).1=1:=by unfold rootV;rw [if_pos hd]
 have hf:firstB (upX up nm) (rootV up ls).1 nm=some ⟨0,up.length+1,nm⟩:=by
  unfold firstB
  rw [h1,upX_ents h hd,List.find?_cons_of_pos]
  unfold useB
  rw [hw]
  simp [whiteN]
 unfold stepV
 rw [hf]
 simp only
 unfold upStep
 rw [hw]
 rfl
theorem upX_other {up:List NodV} (h:up≠[]) (hd:(nodAt up 1).k=1) (ls:List (List NodV)) {nm ot:List UInt8} (hne:nm≠ot) (hno:∀e∈(nodAt up 1).ents,e.ino≠up.length+1) :
  (stepV (upX up nm) ls (rootV (upX up nm) ls) ot).1=(stepV up ls (rootV up ls) ot).1∧(stepV (upX up nm) ls (rootV (upX up nm) ls) ot).2.2=(stepV up ls (rootV up ls) ot).2.2:=by
 rw [upX_root h]
 have h1:(rootV up ls).1=1:=by unfold rootV;rw [if_pos hd]
 have he:entB up 1=(nodAt up 1).ents:=by unfold entB;rw [if_pos hd]
 have hu:∀e∈(nodAt up 1).ents,useB (upX up nm) ot e=useB up ot e:=fun e hx=>by
  unfold useB
  rw [upX_k h nm (hno e hx)]
 have hf:firstB (upX up nm) 1 ot=firstB up 1 ot:=by
  unfold firstB
  rw [upX_ents h hd,he,List.find?_cons_of_neg]
  ·generalize (nodAt up 1).ents=l at hu
   induction l with
   | nil=>rfl
   | cons a r ih =>
    rw [List.find?_cons,List.find?_cons,hu a List.mem_cons_self,ih fun e hx=>hu e (List.mem_cons_of_mem _ hx)]
  ·unfold useB
   simp [hne]
 unfold stepV
 rw [h1,hf]
 cases hfo:firstB up 1 ot with
 | none=>exact ⟨rfl,rfl⟩
 | some e =>
  have hm:=(firstB_use hfo).2.2
  rw [he] at hm
  have hk:=upX_k h nm (hno e hm)
  simp only
  unfold upStep
  rw [hk]
  (repeat' split) <;> exact ⟨rfl,rfl⟩
end Go.Proofs.YtfdbhldnohaopaaGreat

namespace Go.Proofs.YtfdbhldnohaopaaGreat
open Go.RowKit
variable {α β : Type} {E : Enc α}

def KeepS (wX:World) (B b o:Nat) (vc:List Value) (W:World):Prop:=Below B wX W∧(∀k,k < wX.heap.size→k≠b→W.heap[k]?=wX.heap[k]?)∧∀k x,vc[k]?=some x→W.cell? ⟨b,o+k,none⟩=some x
theorem KeepS.start {wX:World} {B b o:Nat} {vc:List Value} (hc:∀k x,vc[k]?=some x→wX.cell? ⟨b,o+k,none⟩=some x):KeepS wX B b o vc wX.drew:=⟨(Below.refl B wX).drew,fun _ _ _=>rfl,hc⟩
theorem KeepS.on {wX W W':World} {B b o:Nat} {vc:List Value} (h:KeepS wX B b o vc W) (hb:Below W.heap.size W W') (hB:B≤wX.heap.size) (hlt:b < wX.heap.size):KeepS wX B b o vc W':=by
 have hs:=h.1.size
 exact ⟨h.1.trans (hb.mono (by omega)),fun k hk hne=>(hb.block k (by omega)).trans (h.2.1 k hk hne),fun k x hx=>(hb.cell (p:=⟨b,o+k,none⟩) (by exact Nat.lt_of_lt_of_le hlt hs)).trans (h.2.2 k x hx)⟩
theorem KeepS.row {wX W:World} {B b o g t:Nat} {vc cs:List Value} (h:KeepS wX B b o vc W) (hr:RowL wX g t cs) (hg:g≠b):RowL W g t cs:=(h.2.1 g hr.lt hg).trans hr
theorem KeepS.rd {α:Type} {E:Enc α} {wX W:World} {B b o:Nat} {vc:List Value} {D:Nat→Prop} {A:Option Addr} {n:Nat} {l:List α} (h:KeepS wX B b o vc W) (hr:RdE E wX D A n l) (hD:∀k,D k→k < wX.heap.size∧k≠b):RdE E W D A n l :=
 hr.mono (fun k hk=>h.2.1 k (hD k hk).1 (hD k hk).2) (fun _ h=>h)
theorem und_at {α:Type} {E:Enc α} {w w':World} {B C:Nat} {A:Option Addr} {n:Nat} {l:List α} (h:RdE E w (Under B) A n l) (hb:Below C w w') (hBC:B≤C):RdE E w' (Under B) A n l :=
 h.mono (fun b hb'=>hb.block b (by unfold Under at hb';omega)) (fun _ h=>h)
end Go.Proofs.YtfdbhldnohaopaaGreat

namespace Go.Proofs.YtfdbhldnohaopaaGreat
open Go.RowKit Go.Shelf Plain

theorem fr_on {α:Type} {E:Enc α} {w w':World} {lo:Nat} {A:Option Addr} {n:Nat} {l:List α} (h:RdE E w (fun b=>lo≤b∧b < w.heap.size) A n l) (hb:Below w.heap.size w w'):RdE E w' (fun b=>lo≤b∧b < w'.heap.size) A n l :=
 h.mono (Kept.of_below hb fun _ h=>h.2) fun _ h=>⟨h.1,Nat.lt_of_lt_of_le h.2 hb.size⟩
theorem fr_grown {α:Type} {E:Enc α} {w w':World} {lo g:Nat} {A:Option Addr} {n:Nat} {l:List α} (h:RdE E w (fun b=>lo≤b∧b < w.heap.size) A n l) (hg:w.grownBy w' (some g)) (hlo:g < lo):RdE E w' (fun b=>lo≤b∧b < w'.heap.size) A n l :=
 h.mono (fun b hb=>hg.block b hb.2 (pu5 (by omega))) fun _ h=>⟨h.1,Nat.lt_of_lt_of_le h.2 hg.size⟩
theorem und_grown {α:Type} {E:Enc α} {w w':World} {B g:Nat} {A:Option Addr} {n:Nat} {l:List α} (h:RdE E w (Under B) A n l) (hg:w.grownBy w' (some g)) (hB:B≤w.heap.size) (hlo:B≤g):RdE E w' (Under B) A n l :=
 h.mono (fun b hb=>hg.block b (Nat.lt_of_lt_of_le hb hB) (fun e=>by have:=Option.some.inj e;unfold Under at hb;omega)) fun _ h=>h
theorem fr_under {α:Type} {E:Enc α} {w:World} {lo:Nat} {A:Option Addr} {n:Nat} {l:List α} (h:RdE E w (fun b=>lo≤b∧b < w.heap.size) A n l):RdE E w (Under w.heap.size) A n l:=h.mono (fun _ _=>rfl) fun _ h=>h.2
theorem fr_low {α:Type} {E:Enc α} {w:World} {lo lo':Nat} {A:Option Addr} {n:Nat} {l:List α} (h:RdE E w (fun b=>lo≤b∧b < w.heap.size) A n l) (hl:lo'≤lo):RdE E w (fun b=>lo'≤b∧b < w.heap.size) A n l:=h.mono (fun _ _=>rfl) fun _ h=>⟨Nat.le_trans hl h.1,h.2⟩
theorem splice_one (l:List Value) (p:Nat) (v:Value) (h:p < l.length):splice l p [v]=l.set p v:=by
 apply List.ext_getElem?
 intro i
 rw [splice_get _ _ _ _ (by simp;omega),List.getElem?_set]
 by_cases h1:p=i
 ·subst h1
  simp [h]
 ·rw [if_neg h1]
  by_cases h2:i < p
  ·rw [if_pos h2]
  ·have h3:¬i < p+[v].length:=by simp;omega
   rw [if_neg h2,if_neg h3]
theorem wpList_storeV {P : Program} {w : World} {ops : Array Oper} {rest : List Oper} {o : Oper} {a : Act} {Q : Exit → Act → World → Prop} (hgd : o.guard = none) (T : Nat) (x y : Operand) (ho : o.op = .store T x y)
  (hsz:∀w,(sizeOf T).run P w=.ok 1 w) (g off t:Nat) (hx:a.eval x=.pointer (some ⟨g,off,none⟩)) (v:Value) (hy:a.eval y=v) (hv:v.cells=#[v]) (h1:v.oneCell'=true) (cur:List Value) (h:RowL w g t cur) (hfit:off < cur.length)
  (hK:∀w',RowL w' g t (cur.set off v)→w.grownBy w' (some g)→w'.heap.size=w.heap.size→wpList P ops Q rest (a.put o.dst undef) w'):wpList P ops Q (o::rest) a w:=by
 refine wpList_plain hgd fun K hK'=>?_
 have hst:=run_storeCells_at P g off t [v] 0 cur.toArray w h (by simp;omega) (by simp [h1])
 simp only [Nat.add_zero] at hst
 have hr:(Instr.storeAt T (.pointer (some ⟨g,off,none⟩)) v).run P w=.ok () (w.setRow g (splice cur off [v]).toArray):=by
  simp [Instr.storeAt,Instr.sureAddr,storeVar,hsz,hv,hst,splice]
 unfold Oper.wp execOp
 simp only [ho,Sem.run_bind,Sem.run_pure,Result.andThen_ok,hx,hy,hr]
 have hrow:=h.setRow_ (splice cur off [v])
 rw [splice_one _ _ _ hfit] at hrow ⊢
 exact hK' _ _ (hK _ hrow (grownBy_setRow _ _ _) (by simp))
theorem und_up {α:Type} {E:Enc α} {w:World} {B:Nat} {A:Option Addr} {n:Nat} {l:List α} (h:RdE E w (Under B) A n l) (hB:B≤w.heap.size):RdE E w (Under w.heap.size) A n l:=h.mono (fun _ _=>rfl) fun _ h=>Nat.lt_of_lt_of_le h hB
theorem sub_cell {cur cs:List Value} {off k:Nat} (h:(cur.drop off).take k=cs) {j:Nat} {v:Value} (hv:cs[j]?=some v):cur[off+j]?=some v:=by
 subst h
 rw [List.getElem?_take] at hv
 split at hv
 ·rwa [List.getElem?_drop] at hv
 ·cases hv
theorem rowA1 (w:World) (c1:List Value) (t1:Nat) {W:World} (hW:w.alloc (.cells c1.toArray t1)=W):RowL W w.heap.size t1 c1∧Below w.heap.size w W∧W.heap.size=w.heap.size+1:=by
 subst hW
 exact ⟨RowL.new w t1 c1,below_new (below_self w) _,by simp⟩
theorem rowA2 (w:World) (c1:List Value) (t1:Nat) (c2:List Value) (t2:Nat) {W:World} (hW:(w.alloc (.cells c1.toArray t1)).alloc (.cells c2.toArray t2)=W):RowL W w.heap.size t1 c1∧RowL W (w.heap.size+1) t2 c2∧Below w.heap.size w W∧W.heap.size=w.heap.size+2:=by
 subst hW
 exact rows2 w c1 c2 t1 t2
theorem rowA3 (w:World) (c1:List Value) (t1:Nat) (c2:List Value) (t2:Nat) (c3:List Value) (t3:Nat) {W:World} (hW:((w.alloc (.cells c1.toArray t1)).alloc (.cells c2.toArray t2)).alloc (.cells c3.toArray t3)=W):RowL W w.heap.size t1 c1∧RowL W (w.heap.size+1) t2 c2∧RowL W (w.heap.size+1+1) t3 c3∧Below w.heap.size w W∧W.heap.size=w.heap.size+3:=by
 subst hW
 exact rows3 w c1 c2 c3 t1 t2 t3
theorem rowA4 (w:World) (c1:List Value) (t1:Nat) (c2:List Value) (t2:Nat) (c3:List Value) (t3:Nat) (c4:List Value) (t4:Nat) {W:World} (hW:(((w.alloc (.cells c1.toArray t1)).alloc (.cells c2.toArray t2)).alloc (.cells c3.toArray t3)).alloc (.cells c4.toArray t4)=W):RowL W w.heap.size t1 c1∧RowL W (w.heap.size+1) t2 c2∧RowL W (w.heap.size+1+1) t3 c3∧RowL W (w.heap.size+1+1+1) t4 c4∧Below w.heap.size w W∧W.heap.size=w.heap.size+4:=rows4 w _ _ _ _ _ _ _ _ hW
end Go.Proofs.YtfdbhldnohaopaaGreat

