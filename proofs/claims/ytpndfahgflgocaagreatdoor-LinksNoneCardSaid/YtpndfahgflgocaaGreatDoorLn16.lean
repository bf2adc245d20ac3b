import Derived.Test.YtpndfahgflgocaaGreatDoorLn8
import Derived.Test.YtpndfahgflgocaaGreatDoorLn15
import Derived.Test.YtpndfahgflgocaaGreatDoorLn13

namespace Go.Proofs.YtpndfahgflgocaaGreatDoor.Plain
def stepJ (s:List UInt8×Bool) (x:List UInt8):List UInt8×Bool:=((if s.2=true then s.1 else s.1++[47])++x,false)
def joinS (l:List (List UInt8)):List UInt8:=(l.foldl stepJ ([47],true)).1
def totL (l:List (List UInt8)):Nat:=(l.map fun x=>x.length+1).sum
theorem totL_snoc (l:List (List UInt8)) (x:List UInt8):totL (l++[x])=totL l+(x.length+1):=by simp [totL]
theorem totL_append (a b:List (List UInt8)):totL (a++b)=totL a+totL b:=by simp [totL]
theorem totL_take (l:List (List UInt8)) (k:Nat):totL (l.take k)≤totL l:=by
 have h:=totL_append (l.take k) (l.drop k)
 rw [List.take_append_drop] at h
 omega
theorem flagJ (l:List (List UInt8)):(l.foldl stepJ ([47],true)).2=decide (l.length=0):=by
 suffices h:∀(l:List (List UInt8)) (s:List UInt8×Bool),(l.foldl stepJ s).2=(s.2&&decide (l.length=0)) from by rw [h];simp
 intro l
 induction l with
 | nil=>intro s;simp
 | cons x r ih=>intro s;rw [List.foldl_cons,ih];simp [stepJ]
theorem joinS_snoc (l:List (List UInt8)) (x:List UInt8):joinS (l++[x])=(if l.length=0 then joinS l else joinS l++[47])++x:=by
 unfold joinS
 rw [List.foldl_append,List.foldl_cons,List.foldl_nil]
 show (if (l.foldl stepJ ([47],true)).2=true then _ else _)++x=_
 rw [flagJ]
 simp
theorem joinS_length (l:List (List UInt8)):(joinS l).length≤1+totL l:=by
 suffices h:∀(l:List (List UInt8)) (s:List UInt8×Bool),((l.foldl stepJ s).1).length≤s.1.length+totL l from h l ([47],true)
 intro l
 induction l with
 | nil=>intro s;simp
 | cons x r ih =>
  intro s
  rw [List.foldl_cons]
  have h1:=ih (stepJ s x)
  have h2:(stepJ s x).1.length≤s.1.length+(x.length+1):=by
   unfold stepJ
   simp only [List.length_append]
   split <;> simp <;> omega
  have h3:totL (x::r)=(x.length+1)+totL r:=by simp [totL]
  omega
def stepP (o:List (List UInt8)) (c:UInt8):List (List UInt8):=if c=47 then o++[[]] else o.set (o.length - 1) (o.getD (o.length - 1) []++[c])
def partsTo (s:List UInt8) (j:Nat):List (List UInt8):=((s.take j).drop 1).foldl stepP [[]]
def partsS (s:List UInt8):List (List UInt8):=(s.drop 1).foldl stepP [[]]
theorem partsTo_all {s:List UInt8} {j:Nat} (h:s.length≤j):partsTo s j=partsS s:=by
 unfold partsTo partsS
 rw [List.take_of_length_le h]
theorem stepP_length (o:List (List UInt8)) (c:UInt8):(stepP o c).length=if c=47 then o.length+1 else o.length:=by
 unfold stepP
 split <;> simp
theorem partsTo_len (s:List UInt8) (j:Nat):1≤(partsTo s j).length∧(partsTo s j).length≤1+j∧∀y∈partsTo s j,y.length≤j:=by
 unfold partsTo
 suffices h:∀(r:List UInt8) (o:List (List UInt8)) (b:Nat),1≤o.length→(∀y∈o,y.length≤b) →
   1≤(r.foldl stepP o).length∧(r.foldl stepP o).length≤o.length+r.length∧∀y∈r.foldl stepP o,y.length≤b+r.length by
  have hl:((s.take j).drop 1).length≤j:=by simp;omega
  obtain ⟨h1,h2,h3⟩:=h ((s.take j).drop 1) [[]] 0 (by simp) (by simp)
  refine ⟨h1,by simp only [List.length_singleton] at h2;omega,fun y hy=>?_⟩
  have:=h3 y hy
  omega
 intro r
 induction r with
 | nil=>intro o b h1 h2;exact ⟨h1,by simp,fun y hy=>by have:=h2 y hy;simpa using this⟩
 | cons c r ih =>
  intro o b h1 h2
  rw [List.foldl_cons]
  have h3:∀y∈stepP o c,y.length≤b+1:=by
   intro y hy
   unfold stepP at hy
   split at hy
   ·rw [List.mem_append] at hy
    rcases hy with hy|hy
    ·have:=h2 y hy;omega
    ·simp at hy;subst hy;simp
   ·rcases List.mem_or_eq_of_mem_set hy with hy|hy
    ·have:=h2 y hy;omega
    ·subst hy
     have hm:o.getD (o.length - 1) []∈o:=by
      simp only [List.getD]
      rw [List.getElem?_eq_getElem (by omega)]
      exact List.getElem_mem (by omega)
     have:=h2 _ hm
     rw [List.length_append,List.length_singleton]
     omega
  have h4:=stepP_length o c
  obtain ⟨a1,a2,a3⟩:=ih (stepP o c) (b+1) (by rw [h4];split <;> omega) h3
  refine ⟨a1,?_,fun y hy=>?_⟩
  ·rw [List.length_cons]
   have:(stepP o c).length≤o.length+1:=by rw [h4];split <;> omega
   omega
  ·have:=a3 y hy
   rw [List.length_cons]
   omega
theorem partsS_len (s:List UInt8):(partsS s).length≤1+s.length∧∀y∈partsS s,y.length≤s.length:=by
 have h:=partsTo_len s s.length
 rw [partsTo_all (Nat.le_refl _)] at h
 exact h.2
def headB (s:List UInt8):Bool:=match s with|[]=>false|c::_=>c==47
def splitB (s:List UInt8):Bool:=s==[47]||(headB s&&(partsS s).all nameB)
def splitS (s:List UInt8):List (List UInt8):=if s=[47] then [] else if (headB s&&(partsS s).all nameB)=true then partsS s else []
def stepC (o:Option (List (List UInt8))) (y:List UInt8):Option (List (List UInt8)) :=
 match o with
 | none=>none
 | some o=>if y=[]∨y=[46] then some o else if y=[46,46] then (if o=[] then none else some o.dropLast) else if nameB y=true then some (o++[y]) else none
def leftS (l:List (List UInt8)):Option (List (List UInt8)):=l.foldl stepC (some [])
theorem leftS_snoc (l:List (List UInt8)) (y:List UInt8):leftS (l++[y])=stepC (leftS l) y:=by simp [leftS]
def cleanB (s:List UInt8):Bool:=headB s&&(leftS (partsS s)).isSome
def cleanS (s:List UInt8):List UInt8:=if headB s=true then (match leftS (partsS s) with|none=>[]|some o=>joinS o) else []
theorem leftS_len (l:List (List UInt8)):∀o,leftS l=some o→o.length≤l.length∧totL o≤totL l:=by
 suffices h:∀(l:List (List UInt8)) (o0:List (List UInt8)),∀o,l.foldl stepC (some o0)=some o→o.length≤o0.length+l.length∧totL o≤totL o0+totL l by
  intro o ho
  have:=h l [] o ho
  simpa [totL] using this
 intro l
 induction l with
 | nil=>intro o0 o ho;cases ho;exact ⟨Nat.le_refl _,Nat.le_refl _⟩
 | cons y r ih =>
  intro o0 o ho
  rw [List.foldl_cons] at ho
  have hy:totL (y::r)=(y.length+1)+totL r:=by simp [totL]
  rw [hy,List.length_cons]
  unfold stepC at ho
  simp only at ho
  split at ho
  ·have:=ih _ _ ho;omega
  ·split at ho
   ·split at ho
    ·exfalso
     clear ih hy
     induction r with
     | nil=>cases ho
     | cons z r ih2=>exact ih2 ho
    ·have h1:=ih _ _ ho
     have h2:totL o0.dropLast≤totL o0:=by rw [List.dropLast_eq_take];exact totL_take _ _
     rw [List.length_dropLast] at h1
     omega
   ·split at ho
    ·have h1:=ih _ _ ho
     rw [totL_snoc,List.length_append,List.length_singleton] at h1
     omega
    ·exfalso
     clear ih hy
     induction r with
     | nil=>cases ho
     | cons z r ih2=>exact ih2 ho
theorem totL_le {l:List (List UInt8)} {b:Nat} (h:∀y∈l,y.length≤b):totL l≤l.length*(b+1):=by
 induction l with
 | nil=>simp [totL]
 | cons y r ih =>
  have h1:=ih (fun z hz=>h z (List.mem_cons_of_mem _ hz))
  have h2:=h y (List.mem_cons_self)
  have:totL (y::r)=(y.length+1)+totL r:=by simp [totL]
  rw [this,List.length_cons,Nat.add_mul]
  omega
def redL (s:List UInt8):List (List UInt8):=if 24 < s.length then [] else if headB s=true then splitS s else if nameB s=true then [s] else []
def redA (s:List UInt8):Bool:=if 24 < s.length then false else if headB s=true then splitB s else false
def redB (s:List UInt8):Bool:=if 24 < s.length then false else if headB s=true then splitB s else nameB s
end Go.Proofs.YtpndfahgflgocaaGreatDoor.Plain

namespace Go.Proofs.YtpndfahgflgocaaGreatDoor
open Go.RowKit Plain

def opqD (x:NodV):Bool:=decide (x.k=1)&&opq x
abbrev ViewV:=Int×List (Int×Int)
def benV (ls:List (List NodV)) (vl:List (Int×Int)) (nm:List UInt8):List (Int×Int):=if (findL ls nm vl []).1=1 then (findL ls nm vl []).2 else []
def rootV (up:List NodV) (ls:List (List NodV)):ViewV:=(if (nodAt up 1).k=1 then 1 else 0,if opqD (nodAt up 1)=true then [] else rootsL ls 0)
def redV (ls:List (List NodV)) (vl:List (Int×Int)) (r:List UInt8):List (Int×Int):=if redB r=true then (if redA r=true then (lookL ls (rootsL ls 0) (redL r)).getD [] else benV ls vl ((redL r).headD [])) else []
def hasR (x:NodV):Bool:=decide (x.att.h / 2 % 2=1)
def partV (up:List NodV) (ls:List (List NodV)) (vl:List (Int×Int)) (i:Int) (nm:List UInt8):List (Int×Int):=if (nodAt up i).k=1 then (if opq (nodAt up i)=true then [] else if hasR (nodAt up i)=true then redV ls vl (nodAt up i).att.r else benV ls vl nm) else []
abbrev StepV:=Int×ViewV×(Int×Int)
def noStep:StepV:=(0,(0,[]),(0,0))
def lowStep (ls:List (List NodV)) (vl:List (Int×Int)) (nm:List UInt8):StepV:=if (findL ls nm vl []).1=0 then noStep else if (findL ls nm vl []).1=1 then (1,(0,(findL ls nm vl []).2),(findL ls nm vl []).2.headD (0,0)) else ((findL ls nm vl []).1,(0,[]),(findL ls nm vl []).2.headD (0,0))
def upStep (up:List NodV) (ls:List (List NodV)) (vl:List (Int×Int)) (nm:List UInt8) (e:EntV):StepV:=if (nodAt up e.ino).k=1 then (1,(e.ino,partV up ls vl e.ino nm),(0,e.ino)) else if (nodAt up e.ino).k=4 then noStep else ((nodAt up e.ino).k,(0,[]),(0,e.ino))
def stepV (up:List NodV) (ls:List (List NodV)) (v:ViewV) (nm:List UInt8):StepV:=match firstB up v.1 nm with
 | some e=>upStep up ls v.2 nm e
 | none=>lowStep ls v.2 nm
def allV (up:List NodV) (ls:List (List NodV)) (v:ViewV):List (List UInt8):=namesL ls v.2++(entB up v.1).map EntV.name
def hidV (up:List NodV) (ls:List (List NodV)) (v:ViewV) (nm:List UInt8):Bool:=decide ((stepV up ls v nm).1=0)
def namesV (up:List NodV) (ls:List (List NodV)) (v:ViewV):List (List UInt8):=(sortS (allV up ls v)).filter (fun x=>!hidV up ls v x)
theorem entB_len {ns:List NodV} (h:∀x∈ns,PlainN x) (i:Int):(entB ns i).length≤16:=by
 unfold entB
 split
 ·exact (nodAt_plain h i).2.2.2.2.1
 ·simp
def PlainX (x:NodV):Prop:=True∧(0≤x.k∧x.k≤4)∧(0≤x.att.h∧x.att.h≤31)∧x.data.length≤300∧x.ents.length≤17∧x.att.r.length≤40∧True
theorem PlainN.toX {x:NodV} (h:PlainN x):PlainX x:=⟨trivial,h.2.1,h.2.2.1,h.2.2.2.1,Nat.le_succ_of_le h.2.2.2.2.1,h.2.2.2.2.2.1,trivial⟩
theorem nodAt_plainX {ns:List NodV} (h:∀x∈ns,PlainX x) (i:Int):PlainX (nodAt ns i):=by
 unfold nodAt
 split
 ·cases hx:ns[(i - 1).toNat]? with
  | none=>exact plain0.toX
  | some x=>exact h x (List.mem_of_getElem? hx)
 ·exact plain0.toX
theorem entB_lenX {ns:List NodV} (h:∀x∈ns,PlainX x) (i:Int):(entB ns i).length≤17:=by
 unfold entB
 split
 ·exact (nodAt_plainX h i).2.2.2.2.1
 ·simp
theorem benV_len (ls:List (List NodV)) (vl:List (Int×Int)) (nm:List UInt8):(benV ls vl nm).length≤vl.length:=by
 unfold benV
 have:=findL_len ls nm vl []
 split
 ·simpa using this
 ·simp
theorem partV_len (up:List NodV) (ls:List (List NodV)) (vl:List (Int×Int)) (i:Int) (nm:List UInt8):(partV up ls vl i nm).length≤max ls.length vl.length:=by
 unfold partV redV
 have h1:=benV_len ls vl nm
 have h2:=benV_len ls vl ((redL (nodAt up i).att.r).headD [])
 have h3:=lookL_len ls (rootsL ls 0) (redL (nodAt up i).att.r)
 have h4:=rootsL_len ls 0
 (repeat' split) <;> (first|(simp;done)|omega)
theorem stepV_len (up:List NodV) (ls:List (List NodV)) (v:ViewV) (nm:List UInt8):(stepV up ls v nm).2.1.2.length≤max ls.length v.2.length:=by
 unfold stepV
 split
 ·rename_i e _
  have:=partV_len up ls v.2 e.ino nm
  unfold upStep noStep
  (repeat' split) <;> (first|(simp;done)|exact this)
 ·have:=findL_len ls nm v.2 []
  unfold lowStep noStep
  (repeat' split) <;> (first|(simp;done)|(simp at this ⊢;omega))
theorem red_one {r:List UInt8} (h1:redB r=true) (h2:redA r=false):redL r=[r]:=by
 unfold redB at h1
 unfold redA at h2
 unfold redL
 split
 ·rename_i h
  rw [if_pos h] at h1
  simp at h1
 ·rename_i h
  rw [if_neg h] at h1 h2
  by_cases hh:headB r=true
  ·rw [if_pos hh] at h1 h2
   rw [h1] at h2
   simp at h2
  ·rw [if_neg hh] at h1 ⊢
   rw [if_pos h1]
theorem redL_len (r:List UInt8):(redL r).length≤25:=by
 unfold redL
 split
 ·simp
 ·split
  ·have:=(partsS_len r).1
   unfold splitS
   split
   ·simp
   ·split
    ·omega
    ·simp
  ·split <;> simp
end Go.Proofs.YtpndfahgflgocaaGreatDoor

namespace Go.Proofs.YtpndfahgflgocaaGreatDoor
open Go.RowKit Go.Shelf Plain

theorem fr_on {α:Type} {E:Enc α} {w w':World} {lo:Nat} {A:Option Addr} {n:Nat} {l:List α} (h:RdE E w (fun b=>lo≤b∧b < w.heap.size) A n l) (hb:Below w.heap.size w w'):RdE E w' (fun b=>lo≤b∧b < w'.heap.size) A n l :=
 h.mono (Kept.of_below hb fun _ h=>h.2) fun _ h=>⟨h.1,Nat.lt_of_lt_of_le h.2 hb.size⟩
theorem fr_grown {α:Type} {E:Enc α} {w w':World} {lo g:Nat} {A:Option Addr} {n:Nat} {l:List α} (h:RdE E w (fun b=>lo≤b∧b < w.heap.size) A n l) (hg:w.grownBy w' (some g)) (hlo:g < lo):RdE E w' (fun b=>lo≤b∧b < w'.heap.size) A n l :=
 h.mono (fun b hb=>hg.block b hb.2 (pu5 (by omega))) fun _ h=>⟨h.1,Nat.lt_of_lt_of_le h.2 hg.size⟩
theorem und_grown {α:Type} {E:Enc α} {w w':World} {B g:Nat} {A:Option Addr} {n:Nat} {l:List α} (h:RdE E w (Under B) A n l) (hg:w.grownBy w' (some g)) (hB:B≤w.heap.size) (hlo:B≤g):RdE E w' (Under B) A n l :=
 h.mono (fun b hb=>hg.block b (Nat.lt_of_lt_of_le hb hB) (fun e=>by have:=Option.some.inj e;unfold Under at hb;omega)) fun _ h=>h
theorem fr_under {α:Type} {E:Enc α} {w:World} {lo:Nat} {A:Option Addr} {n:Nat} {l:List α} (h:RdE E w (fun b=>lo≤b∧b < w.heap.size) A n l):RdE E w (Under w.heap.size) A n l:=h.mono (fun _ _=>rfl) fun _ h=>h.2
theorem fr_low {α:Type} {E:Enc α} {w:World} {lo lo':Nat} {A:Option Addr} {n:Nat} {l:List α} (h:RdE E w (fun b=>lo≤b∧b < w.heap.size) A n l) (hl:lo'≤lo):RdE E w (fun b=>lo'≤b∧b < w.heap.size) A n l:=h.mono (fun _ _=>rfl) fun _ h=>⟨Nat.le_trans hl h.1,h.2⟩
theorem splice_one (l:List Value) (p:Nat) (v:Value) (h:p < l.length):splice l p [v]=l.set p v:=by
 apply List.ext_getElem?
 intro i
 rw [splice_get _ _ _ _ (by simp;omega),List.getElem?_set]
 by_cases h1:p=i
 ·subst h1
  simp [h]
 ·rw [if_neg h1]
  by_cases h2:i < p
  ·rw [if_pos h2]
  ·have h3:¬i < p+[v].length:=by simp;omega
   rw [if_neg h2,if_neg h3]
theorem wpList_storeV {P : Program} {w : World} {ops : Array Oper} {rest : List Oper} {o : Oper} {a : Act} {Q : Exit → Act → World → Prop} (hgd : o.guard = none) (T : Nat) (x y : Operand) (ho : o.op = .store T x y)
  (hsz:∀w,(sizeOf T).run P w=.ok 1 w) (g off t:Nat) (hx:a.eval x=.pointer (some ⟨g,off,none⟩)) (v:Value) (hy:a.eval y=v) (hv:v.cells=#[v]) (h1:v.oneCell'=true) (cur:List Value) (h:RowL w g t cur) (hfit:off < cur.length)
  (hK:∀w',RowL w' g t (cur.set off v)→w.grownBy w' (some g)→w'.heap.size=w.heap.size→wpList P ops Q rest (a.put o.dst undef) w'):wpList P ops Q (o::rest) a w:=by
 refine wpList_plain hgd fun K hK'=>?_
 have hst:=run_storeCells_at P g off t [v] 0 cur.toArray w h (by simp;omega) (by simp [h1])
 simp only [Nat.add_zero] at hst
 have hr:(Instr.storeAt T (.pointer (some ⟨g,off,none⟩)) v).run P w=.ok () (w.setRow g (splice cur off [v]).toArray):=by
  simp [Instr.storeAt,Instr.sureAddr,storeVar,hsz,hv,hst,splice]
 unfold Oper.wp execOp
 simp only [ho,Sem.run_bind,Sem.run_pure,Result.andThen_ok,hx,hy,hr]
 have hrow:=h.setRow_ (splice cur off [v])
 rw [splice_one _ _ _ hfit] at hrow ⊢
 exact hK' _ _ (hK _ hrow (grownBy_setRow _ _ _) (by simp))
theorem und_up {α:Type} {E:Enc α} {w:World} {B:Nat} {A:Option Addr} {n:Nat} {l:List α} (h:RdE E w (Under B) A n l) (hB:B≤w.heap.size):RdE E w (Under w.heap.size) A n l:=h.mono (fun _ _=>rfl) fun _ h=>Nat.lt_of_lt_of_le h hB
theorem sub_cell {cur cs:List Value} {off k:Nat} (h:(cur.drop off).take k=cs) {j:Nat} {v:Value} (hv:cs[j]?=some v):cur[off+j]?=some v:=by
 subst h
 rw [List.getElem?_take] at hv
 split at hv
 ·rwa [List.getElem?_drop] at hv
 ·cases hv
theorem rowA1 (w:World) (c1:List Value) (t1:Nat) {W:World} (hW:w.alloc (.cells c1.toArray t1)=W):RowL W w.heap.size t1 c1∧Below w.heap.size w W∧W.heap.size=w.heap.size+1:=by
 subst hW
 exact ⟨RowL.new w t1 c1,below_new (below_self w) _,by simp⟩
theorem rowA2 (w:World) (c1:List Value) (t1:Nat) (c2:List Value) (t2:Nat) {W:World} (hW:(w.alloc (.cells c1.toArray t1)).alloc (.cells c2.toArray t2)=W):RowL W w.heap.size t1 c1∧RowL W (w.heap.size+1) t2 c2∧Below w.heap.size w W∧W.heap.size=w.heap.size+2:=by
 subst hW
 exact rows2 w c1 c2 t1 t2
theorem rowA3 (w:World) (c1:List Value) (t1:Nat) (c2:List Value) (t2:Nat) (c3:List Value) (t3:Nat) {W:World} (hW:((w.alloc (.cells c1.toArray t1)).alloc (.cells c2.toArray t2)).alloc (.cells c3.toArray t3)=W):RowL W w.heap.size t1 c1∧RowL W (w.heap.size+1) t2 c2∧RowL W (w.heap.size+1+1) t3 c3∧Below w.heap.size w W∧W.heap.size=w.heap.size+3:=by
 subst hW
 exact rows3 w c1 c2 c3 t1 t2 t3
theorem rowA4 (w:World) (c1:List Value) (t1:Nat) (c2:List Value) (t2:Nat) (c3:List Value) (t3:Nat) (c4:List Value) (t4:Nat) {W:World} (hW:(((w.alloc (.cells c1.toArray t1)).alloc (.cells c2.toArray t2)).alloc (.cells c3.toArray t3)).alloc (.cells c4.toArray t4)=W):RowL W w.heap.size t1 c1∧RowL W (w.heap.size+1) t2 c2∧RowL W (w.heap.size+1+1) t3 c3∧RowL W (w.heap.size+1+1+1) t4 c4∧Below w.heap.size w W∧W.heap.size=w.heap.size+4:=rows4 w _ _ _ _ _ _ _ _ hW
end Go.Proofs.YtpndfahgflgocaaGreatDoor

namespace Go.Proofs.YtpndfahgflgocaaGreatDoor
open Go.RowKit Go.Shelf Plain

def IfRet (w:World) (b:Bool) (P:Prop) (e:Ending) (w':World):Prop:=∃p:Bool,e=.returned (.bool p)∧Below w.heap.size w w'∧(p=b→P)
def FewB (many:Int) (ns:List NodV):Prop:=(ns.length:Int)≤many∧∀x∈ns,PlainN x
def FineN (ns:List NodV):Prop:=∀x∈ns,x.ents.length≤9223372036854775807
set_option maxRecDepth 100000 in
set_option maxHeartbeats 1600000 in
theorem PSt1_any {A:Option Addr} {n c gM:Nat} {many:Int} {ns:List NodV} (w:World) (h:RdE nodEn w (Under w.heap.size) A n ns) (hM:w.cell? ⟨gM,0,none⟩=some (.int .i64 many)) (hg:gM < w.heap.size) (hmany:many≤100000) (hsm:FineN ns) :
  Calls Tryz.prog 23 #[.agg #[.slice A n c],.pointer (some ⟨gM,0,none⟩)] w (IfRet w false (FewB many ns)):=by
 have r:=RowL.new w 26 [.slice A n c]
 have hb:=below_new (below_self w) (.cells [Value.slice A n c].toArray 26)
 obtain ⟨W1,hW1⟩:∃W1,w.alloc (.cells [Value.slice A n c].toArray 26)=W1:=⟨_,rfl⟩
 have H0:=h.on hb
 have q1:=(hb.cell (p:=⟨gM,0,none⟩) hg).trans hM
 rw [hW1] at r hb H0 q1
 have hW1':w.alloc (.cells #[.slice A n c] 26)=W1:=hW1
 have q0:W1.cell? ⟨w.heap.size,0,none⟩=some (.slice A n c):=r.cell 0
 have HN:=hide H0
 have HB:=hide hb
 have HFI:=hide hsm
 have HLN:=hide h.1
 clear r hb H0 hW1 h hsm hM
 go_enter Tryz.func23,Tryz.ntmps23
 go_wp2_with fail
 refine (PBranch_any W1 HN.out hmany HFI.out).mono ?_
 rintro e w3 ⟨p,rfl,hb3,hp⟩
 have HP:=hide hp
 have HB3:=hide (HB.out.trans (hb3.mono HB.out.size))
 clear hp hb3 q0 q1 hW1'
 cases p
 ·go_wp2_with fail
  go_ret
  exact ⟨true,rfl,HB3.out,fun h=>by cases h⟩
 ·go_wp2_with fail
  go_ret
  exact ⟨false,rfl,HB3.out,fun _=>by have:=HP.out (by first|rfl|trivial);exact ⟨by rw [HLN.out];exact this.1,this.2⟩⟩
set_option maxRecDepth 100000 in
set_option maxHeartbeats 1600000 in
theorem BrIdx_any {A:Option Addr} {n c gM:Nat} {many:Int} {l:List (List NodV)} (w:World) (h:RdE layEn w (Under w.heap.size) A n l) (hM:w.cell? ⟨gM,0,none⟩=some (.int .i64 many)) (hg:gM < w.heap.size) (hmany:many≤100000) (hn:n≤100000) (hsm:∀ns∈l,FineN ns) :
  Calls Tryz.prog 45 #[.slice A n c,.func (.func 23) #[] #[.pointer (some ⟨gM,0,none⟩)]] w (fun e w'=>∃r:Int,e=.returned (.int .i64 r)∧Below w.heap.size w w'∧(r < 0→∀ns∈l,FewB many ns)):=by
 have H:=hide h
 have hln:=h.1
 have HSM:=hide hsm
 have HM:=hide hM
 clear h hsm hM
 go_enter Tryz.func45,Tryz.ntmps45
 go_wp2
 go_loopw [8] (fun iv wr=>∃j:Nat,j≤n∧iv=.int .i64 j∧Below w.heap.size w wr∧∀i x,i < j→l[i]?=some x→FewB many x) (fun iv _=>n - (intOf iv).toNat)
 case atStart=>exact ⟨0,by omega,rfl,below_self _,fun i x hi=>by omega⟩
 case round =>
  obtain ⟨j,hj,rfl,hbr,hall⟩:=hrel
  have HBR:=hide hbr
  have HALL:=hide hall
  have hbsz:=hbr.size
  clear hbr hall
  by_cases hlt:j < n
  ·obtain ⟨ns,hx⟩:∃ns,l[j]?=some ns:=⟨_,List.getElem?_eq_getElem (by omega)⟩
   obtain ⟨b,o,rfl,hbB,A2,n2,c2,hc,hc2,hN2⟩:=RdE.get_list (F:=nodEn) (H.out.on HBR.out) hx
   have HN2:=hide hN2
   have q:wr.cell? ⟨b,o+j,none⟩=some (.slice A2 n2 c2):=hc
   have HX:=hide hx
   have HFI:=hide (HSM.out ns (List.mem_of_getElem? hx))
   have HM2:=hide ((HBR.out.cell (p:=⟨gM,0,none⟩) hg).trans HM.out)
   have hjn:(j:Int) < (n:Int):=by omega
   clear hx hN2 hc
   go_wp2_with fail
   refine (PSt1_any wr HN2.out HM2.out (by omega) hmany HFI.out).mono ?_
   rintro e w3 ⟨p,rfl,hb3,hp⟩
   have HP:=hide hp
   have HB3:=hide (HBR.out.trans (hb3.mono hbsz))
   clear hp hb3 q
   cases p with
   | true =>
    go_wp2_with fail
    go_ret
    exact ⟨(j:Int),rfl,HB3.out,fun h=>by omega⟩
   | false =>
    go_wp2_with fail
    go_roundw
    case rel=>exact ⟨j+1,by omega,by go_num,HB3.out,fun i y hi hy=>by
     by_cases e:i=j
     ·subst e
      have:=HX.out.symm.trans hy
      cases this
      exact HP.out (by first|rfl|trivial)
     ·exact HALL.out i y (by omega) hy⟩
    case measure=>simp [intOf];omega
  ·obtain rfl:j=n:=by omega
   go_wp2_with fail
   go_ret
   exact ⟨-1,rfl,HBR.out,fun _ x hx=>by
    obtain ⟨i,hi,rfl⟩:=List.mem_iff_getElem.1 hx
    exact HALL.out i _ (by omega) (List.getElem?_eq_getElem hi)⟩
set_option maxRecDepth 100000 in
theorem BrHas_any {A:Option Addr} {n c gM:Nat} {many:Int} {l:List (List NodV)} (w:World) (h:RdE layEn w (Under w.heap.size) A n l) (hM:w.cell? ⟨gM,0,none⟩=some (.int .i64 many)) (hg:gM < w.heap.size) (hmany:many≤100000) (hn:n≤100000) (hsm:∀ns∈l,FineN ns) :
  Calls Tryz.prog 22 #[.slice A n c,.func (.func 23) #[] #[.pointer (some ⟨gM,0,none⟩)]] w (IfRet w false (∀ns∈l,FewB many ns)):=by
 have H:=hide h
 have HM:=hide hM
 clear h hM
 go_enter Tryz.func22,Tryz.ntmps22
 go_wp2_with (go_at_call 45;refine (BrIdx_any w H.out HM.out hg hmany hn hsm).mono ?_;rintro e w3 ⟨r,rfl,hb3,hp⟩;have HP:=hide hp;have HB3:=hide hb3;clear hp hb3)
 go_ret
 exact ⟨_,rfl,HB3.out,fun h=>HP.out (by simpa using h)⟩
set_option maxRecDepth 100000 in
set_option maxHeartbeats 4000000 in
theorem PStackM_any {many:Int} (hmm:many≤24) {g:GeoQ} {AU AL:Option Addr} {nU cU nL cL:Nat} {up:List NodV} {ls:List (List NodV)} (w:World) (hu:RdE nodEn w (Under w.heap.size) AU nU up) (h:RdE layEn w (Under w.heap.size) AL nL ls) (hfu:FineN up) (hfl:∀ns∈ls,FineN ns) :
  Calls Tryz.prog 6 #[.agg (stkC g (.slice AU nU cU) (.slice AL nL cL)).toArray,.int .i64 many] w (IfRet w true (FewL ls∧FewB many up)):=by
 obtain ⟨r0,r1,hb2,hs2⟩:=rows2 w (stkC g (.slice AU nU cU) (.slice AL nL cL)) [.int .i64 many] 29 3
 obtain ⟨W2,hW2⟩:∃W2,(w.alloc (.cells (stkC g (.slice AU nU cU) (.slice AL nL cL)).toArray 29)).alloc (.cells [Value.int .i64 many].toArray 3)=W2:=⟨_,rfl⟩
 rw [hW2] at r0 r1 hb2 hs2
 have hW2':(w.alloc (.cells #[.int .i64 g.a,.int .i64 g.b,.int .i64 g.c,.int .i64 g.d,.slice AU nU cU,.slice AL nL cL] 29)).alloc (.cells #[.int .i64 many] 3)=W2:=hW2
 have q4:W2.cell? ⟨w.heap.size,4,none⟩=some (.slice AU nU cU):=r0.cell 4
 have q5:W2.cell? ⟨w.heap.size,5,none⟩=some (.slice AL nL cL):=r0.cell 5
 have m0:W2.cell? ⟨w.heap.size+1,0,none⟩=some (.int .i64 many):=r1.cell 0
 have R0:=hide r0
 have R1:=hide r1
 have HB2:=hide hb2
 have HU:=hide (hu.on hb2)
 have HL:=hide (h.on hb2)
 have HLL:=hide h.1
 have HUL:=hide hu.1
 have HFU:=hide hfu
 have HFL:=hide hfl
 have hsl:w.heap.size+2≤W2.heap.size:=by omega
 unfold stkC
 clear r0 r1 hb2 hW2 hs2 hu h hfu hfl
 by_cases k0:(nL:Int)≤3
 rotate_left
 ·have c0:decide ((nL:Int)≤3)=false:=decide_eq_false k0
  clear q4
  go_enter Tryz.func6,Tryz.ntmps6
  go_wp2_with fail
  go_ret
  exact ⟨false,rfl,HB2.out,fun h=>by cases h⟩
 have c0:decide ((nL:Int)≤3)=true:=decide_eq_true k0
 go_enter Tryz.func6,Tryz.ntmps6
 go_wp2_with fail
 clear hW2'
 refine (PBranch_any W2 HU.out (by omega) HFU.out).mono ?_
 rintro e w3 ⟨p,rfl,hb3,hp⟩
 have HP:=hide hp
 have HB3:=hide (HB2.out.trans (hb3.mono (by omega)))
 have s5:w3.cell? ⟨w.heap.size,5,none⟩=some (.slice AL nL cL):=(R0.out.on hb3).cell 5
 have M3:=hide ((R1.out.on hb3).cell 0)
 have HL3:=hide (HL.out.on hb3)
 have hs3:=hb3.size
 clear hp hb3 q4 q5 m0
 cases p
 ·clear s5
  go_wp2_with fail
  go_ret
  exact ⟨false,rfl,HB3.out,fun h=>by cases h⟩
 go_wp2_with fail
 refine (BrHas_any w3 HL3.out M3.out (by omega) (by omega) (by omega) HFL.out).mono ?_
 rintro e w4 ⟨p,rfl,hb4,hp4⟩
 have HP4:=hide hp4
 have HB4:=hide (HB3.out.trans (hb4.mono HB3.out.size))
 clear hp4 hb4 s5
 cases p
 ·go_wp2_with fail
  go_ret
  refine ⟨true,rfl,HB4.out,fun _=>?_⟩
  have h1:=HP.out (by first|rfl|trivial)
  have h2:=HP4.out (by first|rfl|trivial)
  exact ⟨⟨by rw [HLL.out];omega,fun ns hn=>⟨by have:=(h2 ns hn).1;omega,(h2 ns hn).2⟩⟩,⟨by rw [HUL.out];exact h1.1,h1.2⟩⟩
 ·go_wp2_with fail
  go_ret
  exact ⟨false,rfl,HB4.out,fun h=>by cases h⟩
end Go.Proofs.YtpndfahgflgocaaGreatDoor

namespace Go.Proofs.YtpndfahgflgocaaGreatDoor
open Go.RowKit Go.Shelf Plain

def viwC (u:Int) (s:Value):List Value:=[.int .i64 u,s]
def vwdC (g:GeoQ) (U L:Value) (u:Int) (s:Value):List Value:=[.int .i64 g.a,.int .i64 g.b,.int .i64 g.c,.int .i64 g.d,U,L,.int .i64 u,s]
theorem viwC_one (u:Int) (A:Option Addr) (n c:Nat):∀v∈viwC u (.slice A n c),v.oneCell'=true:=by simp [viwC,Value.oneCell']
theorem vwdC_one (g:GeoQ) (A B C:Option Addr) (n c m d k e:Nat) (u:Int):∀v∈vwdC g (.slice A n c) (.slice B m d) u (.slice C k e),v.oneCell'=true:=by simp [vwdC,Value.oneCell']
set_option maxRecDepth 100000 in
theorem viw_agg:∀w,(isAgg 120).run Tryz.prog w=.ok true w:=fun w=>by kernel_rfl
set_option maxRecDepth 100000 in
theorem viw_size:∀w,(Go.sizeOf 120).run Tryz.prog w=.ok 2 w:=fun w=>by kernel_rfl
set_option maxRecDepth 100000 in
theorem vwd_agg:∀w,(isAgg 187).run Tryz.prog w=.ok true w:=fun w=>by kernel_rfl
set_option maxRecDepth 100000 in
theorem vwd_size:∀w,(Go.sizeOf 187).run Tryz.prog w=.ok 8 w:=fun w=>by kernel_rfl
set_option maxRecDepth 100000 in
theorem int_size:∀w,(Go.sizeOf 3).run Tryz.prog w=.ok 1 w:=fun w=>by kernel_rfl
def FewU (up:List NodV):Prop:=up.length≤24∧∀x∈up,PlainN x
def FewX (up:List NodV):Prop:=up.length≤24∧∀x∈up,PlainX x
theorem FewU.toX {up:List NodV} (h:FewU up):FewX up:=⟨h.1,fun x hx=>(h.2 x hx).toX⟩
instance coeFewX {up:List NodV}:Coe (FewU up) (FewX up):=⟨FewU.toX⟩
def ViewF (lo:Nat) (w:World) (v:ViewV) (e:Ending) (w':World):Prop:=∃A c,e=.returned (.agg (viwC v.1 (.slice A v.2.length c)).toArray)∧RdE prEn w' (fun b=>lo≤b∧b < w'.heap.size) A v.2.length v.2∧Below w.heap.size w w'
set_option maxRecDepth 100000 in
set_option maxHeartbeats 1600000 in
theorem VOpq_b {x:NodV} {D C:Option Addr} {n c m d:Nat} {b:Bool} (hb:opqD x=b) (h0:0≤x.att.h) (h1:x.att.h≤31) (w:World):Calls Tryz.prog 120 #[.agg (nodC x (.slice D n c) (.slice C m d)).toArray] w (BoolB w b):=by
 obtain ⟨W1,hW1⟩:∃W1,(w.alloc (.cells (nodC x (.slice D n c) (.slice C m d)).toArray 51))=W1:=⟨_,rfl⟩
 obtain ⟨r0,hb1,hs1⟩:=rowA1 w _ _ hW1
 have hW1':(w.alloc (.cells #[.int .i64 x.k,.int .i64 x.p,.int .i64 x.n,.int .i64 x.g,.slice D n c,.slice C m d,.int .i64 x.att.h,.int .i64 x.att.o,.string ⟨x.att.r.toArray⟩,.int .i64 x.att.l,.int .i64 x.att.i,.int .i64 x.att.g,.int .i64 x.att.s] 51))=W1:=hW1
 have R1:=hide r0
 have HB:=hide hb1
 have hsz0:=hb1.size
 obtain ⟨b1,hb1'⟩:∃b1,(x.k==1)=b1:=⟨_,rfl⟩
 obtain ⟨b2,hb2⟩:∃b2,opq x=b2:=⟨_,rfl⟩
 have HO:=hide hb2
 have e:b=(b1&&b2):=by
  rw [←hb,←hb1',←hb2]
  unfold opqD
  congr 1
 subst e
 have q1_0:W1.cell? ⟨w.heap.size,0,none⟩=some (.int .i64 x.k):=R1.out.cell 0
 have q1_1:W1.cell? ⟨w.heap.size,1,none⟩=some (.int .i64 x.p):=R1.out.cell 1
 have q1_2:W1.cell? ⟨w.heap.size,2,none⟩=some (.int .i64 x.n):=R1.out.cell 2
 have q1_3:W1.cell? ⟨w.heap.size,3,none⟩=some (.int .i64 x.g):=R1.out.cell 3
 have q1_4:W1.cell? ⟨w.heap.size,4,none⟩=some (.slice D n c):=R1.out.cell 4
 have q1_5:W1.cell? ⟨w.heap.size,5,none⟩=some (.slice C m d):=R1.out.cell 5
 have q1_6:W1.cell? ⟨w.heap.size,6,none⟩=some (.int .i64 x.att.h):=R1.out.cell 6
 have q1_7:W1.cell? ⟨w.heap.size,7,none⟩=some (.int .i64 x.att.o):=R1.out.cell 7
 have q1_8:W1.cell? ⟨w.heap.size,8,none⟩=some (.string ⟨x.att.r.toArray⟩):=R1.out.cell 8
 have q1_9:W1.cell? ⟨w.heap.size,9,none⟩=some (.int .i64 x.att.l):=R1.out.cell 9
 have q1_10:W1.cell? ⟨w.heap.size,10,none⟩=some (.int .i64 x.att.i):=R1.out.cell 10
 have q1_11:W1.cell? ⟨w.heap.size,11,none⟩=some (.int .i64 x.att.g):=R1.out.cell 11
 have q1_12:W1.cell? ⟨w.heap.size,12,none⟩=some (.int .i64 x.att.s):=R1.out.cell 12
 unfold nodC
 clear r0 hb1 hW1 hb hb2
 cases b1 <;> cases b2
 all_goals
  go_enter Tryz.func120,Tryz.ntmps120
  go_wp2_with (first|(go_at_call 145;refine (Marked_b (by exact HO.out) h0 h1 W1).mono ?_;rintro e1 wX ⟨rfl,hbel⟩;clear q1_0 q1_1 q1_2 q1_3 q1_4 q1_5 q1_6 q1_7 q1_8 q1_9 q1_10 q1_11 q1_12;replace HB:=hide (HB.out.trans (hbel.mono HB.out.size));replace R1:=hide (R1.out.on hbel);have hsz2:=hbel.size;have q1_0:wX.cell? ⟨w.heap.size,0,none⟩=some (.int .i64 x.k):=R1.out.cell 0;have q1_1:wX.cell? ⟨w.heap.size,1,none⟩=some (.int .i64 x.p):=R1.out.cell 1;have q1_2:wX.cell? ⟨w.heap.size,2,none⟩=some (.int .i64 x.n):=R1.out.cell 2;have q1_3:wX.cell? ⟨w.heap.size,3,none⟩=some (.int .i64 x.g):=R1.out.cell 3;have q1_4:wX.cell? ⟨w.heap.size,4,none⟩=some (.slice D n c):=R1.out.cell 4;have q1_5:wX.cell? ⟨w.heap.size,5,none⟩=some (.slice C m d):=R1.out.cell 5;have q1_6:wX.cell? ⟨w.heap.size,6,none⟩=some (.int .i64 x.att.h):=R1.out.cell 6;have q1_7:wX.cell? ⟨w.heap.size,7,none⟩=some (.int .i64 x.att.o):=R1.out.cell 7;have q1_8:wX.cell? ⟨w.heap.size,8,none⟩=some (.string ⟨x.att.r.toArray⟩):=R1.out.cell 8;have q1_9:wX.cell? ⟨w.heap.size,9,none⟩=some (.int .i64 x.att.l):=R1.out.cell 9;have q1_10:wX.cell? ⟨w.heap.size,10,none⟩=some (.int .i64 x.att.i):=R1.out.cell 10;have q1_11:wX.cell? ⟨w.heap.size,11,none⟩=some (.int .i64 x.att.g):=R1.out.cell 11;have q1_12:wX.cell? ⟨w.heap.size,12,none⟩=some (.int .i64 x.att.s):=R1.out.cell 12;clear hbel))
  go_ret
  exact BoolB.of HB.out
end Go.Proofs.YtpndfahgflgocaaGreatDoor

