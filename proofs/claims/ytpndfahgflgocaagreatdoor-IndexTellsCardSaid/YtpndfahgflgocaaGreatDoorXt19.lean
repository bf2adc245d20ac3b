import Derived.Test.YtpndfahgflgocaaGreatDoorXt1
import Derived.Test.YtpndfahgflgocaaGreatDoorXt3
import Derived.Test.YtpndfahgflgocaaGreatDoorXt12
import Derived.Test.YtpndfahgflgocaaGreatDoorXt4
import Derived.StillTailTactics
import Derived.Test.YtpndfahgflgocaaGreatDoorProg
import Derived.Test.YtpndfahgflgocaaGreatDoorXt18
import Derived.Test.YtpndfahgflgocaaGreatDoorXt11
import Derived.Lib.AtoiErrMem
import Derived.Lib.Strings
import Derived.Lib.Walk
import Derived.Lib.ConvBytes
import Derived.Lib.Hide
import Derived.Laws.Strings3
import Derived.Laws.Closers25
import Derived.Laws.Closers25b
import Derived.BigCall
import Derived.BigGuard

namespace Go.Proofs.YtpndfahgflgocaaGreatDoor
open Plain

def digH (n:Nat):UInt8:=if n < 10 then UInt8.ofNat (48+n) else UInt8.ofNat (87+n)
def hexN : Nat → Nat → List UInt8
 | 0,_=>[]
 | k+1,n=>hexN k (n / 16)++[digH (n % 16)]
def isH (c:UInt8):Bool:=decide (48≤c.toNat∧c.toNat≤57)||decide (97≤c.toNat∧c.toNat≤102)
def valH (c:UInt8):Nat:=if c.toNat≤57 then c.toNat - 48 else c.toNat - 87
def numH (l:List UInt8):Nat:=l.foldl (fun a c=>if isH c=true then a*16+valH c else a) 0
theorem dig_fin:∀n:Fin 16,isH (digH n.1)=true∧valH (digH n.1)=n.1∧(digH n.1).toNat=(if n.1 < 10 then 48+n.1 else 87+n.1):=by decide +kernel
theorem dig_is {n:Nat} (h:n < 16):isH (digH n)=true:=(dig_fin ⟨n,h⟩).1
theorem dig_val {n:Nat} (h:n < 16):valH (digH n)=n:=(dig_fin ⟨n,h⟩).2.1
theorem val_dig {c:UInt8} (h:isH c=true):digH (valH c)=c:=by
 have h1:∀n:Fin 256,isH (UInt8.ofNat n.1)=true→digH (valH (UInt8.ofNat n.1))=UInt8.ofNat n.1:=by decide +kernel
 have h2:=h1 ⟨c.toNat,c.toNat_lt⟩
 have e:UInt8.ofNat c.toNat=c:=by simp
 simp only [e] at h2
 exact h2 h
theorem val_lt {c:UInt8} (h:isH c=true):valH c < 16:=by
 unfold isH at h
 unfold valH
 rw [Bool.or_eq_true,decide_eq_true_eq,decide_eq_true_eq] at h
 split <;> omega
theorem hexN_len : ∀ k n, (hexN k n).length = k
 | 0,_=>rfl
 | k+1,n=>by rw [hexN,List.length_append,hexN_len k];rfl
theorem hexN_all : ∀ k n, (hexN k n).all isH = true
 | 0,_=>rfl
 | k+1,n=>by
  rw [hexN,List.all_append,hexN_all k]
  simp [dig_is (Nat.mod_lt n (by decide:16 > 0))]
theorem numH_snoc (l:List UInt8) (c:UInt8):numH (l++[c])=if isH c=true then numH l*16+valH c else numH l:=by
 unfold numH
 rw [List.foldl_append]
 rfl
theorem numH_hex : ∀ k n, n < 16 ^ k → numH (hexN k n) = n
 | 0,n,h=>by simp at h;subst h;rfl
 | k+1,n,h=>by
  have h1:=Nat.mod_lt n (by decide:16 > 0)
  rw [hexN,numH_snoc,if_pos (dig_is h1),dig_val h1,numH_hex k (n / 16) (by rw [Nat.pow_succ] at h;omega)]
  omega
theorem numH_lt : ∀ (k : Nat) (l : List UInt8), l.length = k → numH l < 16 ^ k
 | 0,l,h=>by
  rw [List.length_eq_zero_iff.1 h]
  decide
 | k+1,l,h=>by
  obtain ⟨r,c,rfl⟩:∃r c,l=r++[c]:=by
   rcases List.eq_nil_or_concat l with e|⟨r,c,e⟩
   ·rw [e] at h;cases h
   ·exact ⟨r,c,by rw [e,List.concat_eq_append]⟩
  have h1:=numH_lt k r (by rw [List.length_append] at h;simpa using h)
  rw [numH_snoc,Nat.pow_succ]
  split
  ·rename_i hc
   have:=val_lt hc
   omega
  ·omega
theorem hex_numH : ∀ (k : Nat) (l : List UInt8), l.length = k → l.all isH = true → hexN k (numH l) = l
 | 0,l,h,_=>by rw [List.length_eq_zero_iff.1 h];rfl
 | k+1,l,h,ha=>by
  obtain ⟨r,c,rfl⟩:∃r c,l=r++[c]:=by
   rcases List.eq_nil_or_concat l with e|⟨r,c,e⟩
   ·rw [e] at h;cases h
   ·exact ⟨r,c,by rw [e,List.concat_eq_append]⟩
  rw [List.all_append,Bool.and_eq_true] at ha
  have hc:isH c=true:=by simpa using ha.2
  have hv:=val_lt hc
  rw [numH_snoc,if_pos hc,hexN,show (numH r*16+valH c) / 16=numH r from by omega,show (numH r*16+valH c) % 16=valH c from by omega,hex_numH k r (by rw [List.length_append] at h;simpa using h) ha.1,val_dig hc]
theorem hexN_cons : ∀ j n, hexN (j + 1) n = digH (n / 16 ^ j % 16) :: hexN j n
 | 0,n=>by simp [hexN]
 | j+1,n=>by
  rw [hexN,hexN_cons j (n / 16),hexN.eq_def (j+1) n]
  simp only [List.cons_append]
  rw [Nat.div_div_eq_div_mul,show 16*16 ^ j=16 ^ (j+1) from by rw [Nat.pow_succ,Nat.mul_comm]]
theorem hexN_pad {m n : Nat} (h : n < 16 ^ m) : ∀ d, hexN (d + m) n = List.replicate d 48 ++ hexN m n
 | 0=>by simp
 | d+1=>by
  rw [show d+1+m=d+m+1 from by omega,hexN_cons,hexN_pad h d]
  have h1:n / 16 ^ (d+m)=0:=Nat.div_eq_of_lt (Nat.lt_of_lt_of_le h (Nat.pow_le_pow_right (by decide) (by omega)))
  rw [h1]
  rfl
theorem hexN_few {m n k:Nat} (h:n < 16 ^ k) (h2:m=1∨16 ^ (m - 1)≤n) (hk:1≤k):m≤k:=by
 rcases Nat.lt_or_ge k m with h3|h3
 ·rcases h2 with h2|h2
  ·omega
  ·have:=Nat.pow_le_pow_right (show 16 > 0 by decide) (show k≤m - 1 by omega)
   omega
 ·exact h3

abbrev OriV:=Int×Int×Int
def mayH (o:OriV):Bool:=decide (1≤o.1∧o.1≤15∧0≤o.2.1∧o.2.1≤65535∧0≤o.2.2∧o.2.2≤268435455)
def textH (o:OriV):List UInt8:=hexN 1 o.1.toNat++hexN 4 o.2.1.toNat++hexN 7 o.2.2.toNat
def nameH (o:OriV):List UInt8:=if mayH o=true then textH o else []
def oriH (s:List UInt8):OriV:=((numH (s.take 1):Nat),(numH ((s.drop 1).take 4):Nat),(numH (s.drop 5):Nat))
def isN (s:List UInt8):Bool:=decide (s.length=12)&&s.all isH&&decide (1≤numH (s.take 1))
def parseH (s:List UInt8):OriV:=if isN s=true then oriH s else (0,0,0)
theorem textH_len (o:OriV):(textH o).length=12:=by
 unfold textH
 rw [List.length_append,List.length_append,hexN_len,hexN_len,hexN_len]
theorem text_cuts (o:OriV):(textH o).take 1=hexN 1 o.1.toNat∧((textH o).drop 1).take 4=hexN 4 o.2.1.toNat∧(textH o).drop 5=hexN 7 o.2.2.toNat:=by
 unfold textH
 have h1:=hexN_len 1 o.1.toNat
 have h4:=hexN_len 4 o.2.1.toNat
 refine ⟨?_,?_,?_⟩
 ·rw [List.append_assoc,List.take_append_of_le_length (by omega),List.take_of_length_le (by omega)]
 ·rw [List.append_assoc,List.drop_append,List.drop_of_length_le (by omega),h1,List.nil_append,Nat.sub_self,List.drop_zero,List.take_append_of_le_length (by omega),List.take_of_length_le (by omega)]
 ·rw [List.drop_append,List.drop_of_length_le (by rw [List.length_append];omega),List.length_append,h1,h4,List.nil_append]
  rfl
theorem parse_text {o:OriV} (h:mayH o=true):isN (textH o)=true∧oriH (textH o)=o:=by
 obtain ⟨a,b,c⟩:=o
 have hm:1≤a∧a≤15∧0≤b∧b≤65535∧0≤c∧c≤268435455:=of_decide_eq_true h
 obtain ⟨c1,c2,c3⟩:=text_cuts (a,b,c)
 have n1:=numH_hex 1 a.toNat (by omega)
 have n2:=numH_hex 4 b.toNat (by omega)
 have n3:=numH_hex 7 c.toNat (by omega)
 refine ⟨?_,?_⟩
 ·unfold isN
  rw [c1,n1,textH_len,Bool.and_eq_true,Bool.and_eq_true]
  refine ⟨⟨rfl,?_⟩,decide_eq_true (by omega)⟩
  unfold textH
  rw [List.all_append,List.all_append,hexN_all,hexN_all,hexN_all]
  rfl
 ·unfold oriH
  rw [c1,c2,c3,n1,n2,n3]
  show (((a.toNat:Nat):Int),((b.toNat:Nat):Int),((c.toNat:Nat):Int))=(a,b,c)
  rw [Int.toNat_of_nonneg (by omega),Int.toNat_of_nonneg (by omega),Int.toNat_of_nonneg (by omega)]
theorem text_parse {s:List UInt8} (h:isN s=true):mayH (oriH s)=true∧textH (oriH s)=s:=by
 unfold isN at h
 rw [Bool.and_eq_true,Bool.and_eq_true] at h
 obtain ⟨⟨h1,h2⟩,h3⟩:=h
 have h1:=of_decide_eq_true h1
 have h3:=of_decide_eq_true h3
 have e:s=s.take 1++(s.drop 1).take 4++s.drop 5:=by
  rw [List.append_assoc]
  conv=>lhs;rw [←List.take_append_drop 1 s,←List.take_append_drop 4 (s.drop 1),List.drop_drop]
 have a1:(s.take 1).all isH=true:=List.all_eq_true.2 (fun x hx=>List.all_eq_true.1 h2 x (List.mem_of_mem_take hx))
 have a2:((s.drop 1).take 4).all isH=true:=List.all_eq_true.2 (fun x hx=>List.all_eq_true.1 h2 x (List.mem_of_mem_drop (List.mem_of_mem_take hx)))
 have a3:(s.drop 5).all isH=true:=List.all_eq_true.2 (fun x hx=>List.all_eq_true.1 h2 x (List.mem_of_mem_drop hx))
 have l1:(s.take 1).length=1:=by rw [List.length_take];omega
 have l2:((s.drop 1).take 4).length=4:=by rw [List.length_take,List.length_drop];omega
 have l3:(s.drop 5).length=7:=by rw [List.length_drop];omega
 have b1:=numH_lt 1 _ l1
 have b2:=numH_lt 4 _ l2
 have b3:=numH_lt 7 _ l3
 constructor
 ·unfold mayH oriH
  refine decide_eq_true ?_
  simp only
  omega
 ·unfold textH oriH
  simp only [Int.toNat_natCast]
  rw [hex_numH 1 _ l1 a1,hex_numH 4 _ l2 a2,hex_numH 7 _ l3 a3]
  exact e.symm
theorem name_iff {o:OriV} {s:List UInt8}:(mayH o=true∧textH o=s)↔(isN s=true∧oriH s=o):=by
 constructor
 ·rintro ⟨h,rfl⟩;exact parse_text h
 ·rintro ⟨h,rfl⟩;exact text_parse h
end Go.Proofs.YtpndfahgflgocaaGreatDoor

namespace Go.Proofs.YtpndfahgflgocaaGreatDoor
open Go.RowKit Go.Shelf Plain
structure FinV where
 (c l i s:Int)
 deriving DecidableEq
def finC (x:FinV):List Value:=[.int .i64 x.c,.int .i64 x.l,.int .i64 x.i,.int .i64 x.s]
def finEn : Enc FinV where
 k:=4
 R:=fun _ _ cs x=>cs=finC x
 len:=fun h=>by rw [h];rfl
 one:=fun h v hv=>by
  rw [h] at hv
  simp only [finC,List.mem_cons,List.not_mem_nil,or_false] at hv
  rcases hv with rfl|rfl|rfl|rfl <;> rfl
 mono:=fun h _ _=>h
theorem RdE.get_fin {w:World} {D:Nat→Prop} {A:Option Addr} {n:Nat} {l:List FinV} (h:RdE finEn w D A n l) {i:Nat} {x:FinV} (hx:l[i]?=some x) :
  ∃b o,A=some ⟨b,o,none⟩∧D b∧∀j v,(finC x)[j]?=some v→w.cell? ⟨b,o+i*4+j,none⟩=some v:=by
 have hi:=(List.getElem?_eq_some_iff.1 hx).1
 obtain ⟨b,o,e,hb,hc⟩:=h.2 (by have:=h.1;omega)
 obtain ⟨cs,hcs,hcell⟩:=hc i x hx
 refine ⟨b,o,e,hb,fun j v hv=>?_⟩
 have:=hcell j v (by rw [show cs=finC x from hcs];exact hv)
 rwa [show o+(i*finEn.k+j)=o+i*4+j from by show o+(i*4+j)=o+i*4+j;omega] at this
theorem fin_agg:∀w,(isAgg 37).run Tryz.prog w=.ok true w:=fun w=>by kernel_rfl
theorem fin_size:∀w,(Go.sizeOf 37).run Tryz.prog w=.ok 4 w:=fun w=>by kernel_rfl
set_option maxHeartbeats 1600000 in
set_option maxRecDepth 100000 in
theorem neq_fin (x:FinV) (W:World):(binOp .neq 37 (.agg #[.int .i64 x.c,.int .i64 x.l,.int .i64 x.i,.int .i64 x.s]) (.agg #[.int .i64 x.c,.int .i64 x.l,.int .i64 x.i,.int .i64 x.s])).run Tryz.prog W=.ok (.bool false) W:=by
 simp [go_sem]
set_option maxHeartbeats 800000 in
theorem EqualFin_same {A B:Option Addr} {n m c d:Nat} {L:List FinV} (w:World) (ha:RdE finEn w (Under w.heap.size) A n L) (hb:RdE finEn w (Under w.heap.size) B m L) (hn:n≤140737488355328) :
  Calls Tryz.prog 8 #[.slice A n c,.slice B m d] w (BoolB w true):=by
 obtain rfl:n=m:=by rw [←ha.1,←hb.1]
 have HA:=hide ha
 have HB:=hide hb
 clear ha hb
 have hd:((n:Int) != (n:Int))=false:=by simp
 go_enter Tryz.func8,Tryz.ntmps8
 go_wp2
 go_loopw [13] (fun i wr=>∃j q:Nat,j≤n∧i=.int .i64 j∧wr=w.drewN q) (fun i _=>n - (intOf i).toNat)
 case atStart=>exact ⟨0,0,by omega,rfl,rfl⟩
 case round =>
  obtain ⟨j,q,hj,rfl,rfl⟩:=hrel
  by_cases hlt:j < n
  ·have hl1:j < L.length:=by rw [HA.out.1];exact hlt
   obtain ⟨b1,o1,rfl,-,hc1⟩:=HA.out.get_fin (List.getElem?_eq_getElem hl1)
   obtain ⟨b2,o2,rfl,-,hc2⟩:=HB.out.get_fin (List.getElem?_eq_getElem hl1)
   generalize L[j]=y at hc1 hc2
   have hL1:∀q,(Instr.loadAt 37 (.pointer (some ⟨b1,o1+j*4,none⟩))).run Tryz.prog (w.drewN q)=.ok (.agg #[.int .i64 y.c,.int .i64 y.l,.int .i64 y.i,.int .i64 y.s]) (w.drewN q):=fun q=>run_loadAt_cells (w:=w.drewN q) fin_agg fin_size hc1 rfl
   have hL2:∀q,(Instr.loadAt 37 (.pointer (some ⟨b2,o2+j*4,none⟩))).run Tryz.prog (w.drewN q)=.ok (.agg #[.int .i64 y.c,.int .i64 y.l,.int .i64 y.i,.int .i64 y.s]) (w.drewN q):=fun q=>run_loadAt_cells (w:=w.drewN q) fin_agg fin_size hc2 rfl
   have hne:=fun W=>neq_fin y W
   clear hc1 hc2 hl1
   go_wp2
   refine wp_region_quiet_lit (by kernel_rfl) (by kernel_rfl) ?_
   iterate 3 (quiet_step (fail))
   refine Go.BigFrame.wpQuiet_want rfl (fun K hK=>?_)
   refine quietL 37 (.tmp 18) rfl _ _ rfl (by rintro _ ⟨n',rfl⟩;rw [World.drewN_drewN];exact hL1 _) (hK _ ?_)
   clear hK K
   iterate 3 (quiet_step (fail))
   refine Go.BigFrame.wpQuiet_want rfl (fun K hK=>?_)
   refine quietL 37 (.tmp 22) rfl _ _ rfl (by rintro _ ⟨n',rfl⟩;rw [World.drewN_drewN];exact hL2 _) (hK _ ?_)
   clear hK K
   iterate 1 (quiet_step (fail))
   refine wpQuiet_nil ?_
   rintro _ ⟨nq,rfl⟩
   go_wp2
   go_roundw
   case rel=>exact ⟨j+1,_,by omega,by go_num,rfl⟩
   case measure=>simp [intOf];omega
  ·obtain rfl:j=n:=by omega
   go_wp2
   go_ret
   exact BoolB.of (below_drewN (below_self w) _)
end Go.Proofs.YtpndfahgflgocaaGreatDoor

namespace Go.Proofs.YtpndfahgflgocaaGreatDoor
open Go.RowKit Go.Shelf Plain

def hasO (x:NodV):Bool:=decide (x.att.h / 4 % 2=1)
def stX (up:List NodV) (rs:List Bool) (i:Int) (o:OriV):Bool:=if (nodAt up i).k=4 then true else if (nodAt up i).k=2∨(nodAt up i).k=3 then (rs[(i - 1).toNat]?).getD false&&hasO (nodAt up i)&&decide (orgOf (nodAt up i)=o) else false
def orX (ls:List (List NodV)) (o:OriV):Bool:=(handF ls o).2&&decide ((handF ls o).1.k≠1)
def badX (up:List NodV) (ls:List (List NodV)) (rs:List Bool) (e:EntV):Bool:=!isN e.name||!orX ls (parseH e.name)||!stX up rs e.ino (parseH e.name)
def rowX (up : List NodV) (ls : List (List NodV)) (rs : List Bool) (es : List EntV) : Nat → List FinV
 | 0=>[]
 | j+1=>match es[j]? with
  | some e=>if badX up ls rs e=true then rowX up ls rs es j++[⟨16,0,3,e.slot⟩] else rowX up ls rs es j
  | none=>rowX up ls rs es j
def wrkX (l : List FinV) (es : List EntV) : Nat → List FinV
 | 0=>l
 | j+1=>match es[j]? with
  | some e=>wrkX l es j++[⟨17,0,2,e.slot⟩]
  | none=>wrkX l es j
def findX (up:List NodV) (ls:List (List NodV)) (rs:List Bool):List FinV:=wrkX (rowX up ls rs (entB up 3) (entB up 3).length) (entB up 2) (entB up 2).length
def inX (up:List NodV) (ls:List (List NodV)) (rs:List Bool) (i:Int):Bool:=(entB up 3).any fun e=>decide (e.ino=i)&&!badX up ls rs e
theorem rowX_len (up : List NodV) (ls : List (List NodV)) (rs : List Bool) (es : List EntV) : ∀ j, (rowX up ls rs es j).length ≤ j
 | 0=>Nat.le_refl _
 | j+1=>by
  have h1:=rowX_len up ls rs es j
  unfold rowX
  split
  ·split
   ·rw [List.length_append];simp;omega
   ·omega
  ·omega
theorem wrkX_len (l : List FinV) (es : List EntV) : ∀ j, (wrkX l es j).length ≤ l.length + j
 | 0=>Nat.le_refl _
 | j+1=>by
  have h1:=wrkX_len l es j
  unfold wrkX
  split
  ·rw [List.length_append];simp;omega
  ·omega
theorem inX_at {up:List NodV} {ls:List (List NodV)} {rs:List Bool} {i:Int} {j:Nat} {e:EntV} (he:(entB up 3)[j]?=some e) (hi:e.ino=i) (hb:badX up ls rs e=false):inX up ls rs i=true:=by
 unfold inX
 refine List.any_eq_true.2 ⟨e,List.mem_of_getElem? he,?_⟩
 rw [hb]
 simp [hi]
theorem inX_none {up:List NodV} {ls:List (List NodV)} {rs:List Bool} {i:Int} (h:∀(j:Nat) e,(entB up 3)[j]?=some e→e.ino=i→badX up ls rs e=true):inX up ls rs i=false:=by
 unfold inX
 refine List.any_eq_false.2 fun e he=>?_
 obtain ⟨j,hj⟩:=List.getElem?_of_mem he
 by_cases hi:e.ino=i
 ·rw [h j e hj hi];simp
 ·simp [hi]
end Go.Proofs.YtpndfahgflgocaaGreatDoor

namespace Go.Proofs.YtpndfahgflgocaaGreatDoor
open Go.RowKit Go.Shelf Plain

def lowH (c:UInt8):Int:=bits .or .u8 (c.toNat:Int) 32
theorem low_fin:∀n:Fin 256,0≤bits .or .u8 ((UInt8.ofNat n.1).toNat:Int) 32∧bits .or .u8 ((UInt8.ofNat n.1).toNat:Int) 32≤255∧(isH (UInt8.ofNat n.1)=true→¬(48≤(UInt8.ofNat n.1).toNat∧(UInt8.ofNat n.1).toNat≤57)→97≤bits .or .u8 ((UInt8.ofNat n.1).toNat:Int) 32∧bits .or .u8 ((UInt8.ofNat n.1).toNat:Int) 32≤102∧bits .or .u8 ((UInt8.ofNat n.1).toNat:Int) 32=((UInt8.ofNat n.1).toNat:Int)):=by decide +kernel
theorem low_all (c:UInt8):0≤lowH c∧lowH c≤255∧(isH c=true→¬(48≤c.toNat∧c.toNat≤57)→97≤lowH c∧lowH c≤102∧lowH c=(c.toNat:Int)):=by
 have h:=low_fin ⟨c.toNat,c.toNat_lt⟩
 have e:UInt8.ofNat c.toNat=c:=by simp
 simp only [e] at h
 exact h
theorem lower_e {c:UInt8} {L:Int} (h:lowH c=L) (w:World):Calls Tryz.prog 155 #[.int .u8 c.toNat] w (fun e w'=>e=.returned (.int .u8 L)∧w'=w):=by
 rw [←h]
 exact Tryz.internal_strconv_lower (c.toNat:Int) w
theorem lower_95 (w:World):Calls Tryz.prog 155 #[.int .u8 95] w (fun e w'=>e=.returned (.int .u8 127)∧w'=w):=by
 have h:=Tryz.internal_strconv_lower 95 w
 rw [show bits .or .u8 95 32=127 from by decide] at h
 exact h
def UAns (l:List UInt8) (e:Ending):Prop:=∃v:Nat,v < 16 ^ l.length∧(l.all isH=true→v=numH l)∧(e=.returned (.tuple #[.int .u64 v,.nilIface])∨(v=0∧l.all isH=false∧e=.returned (.tuple #[.int .u64 0,.iface 200 (.int .i64 2)])))
set_option maxHeartbeats 32000000 in
set_option maxRecDepth 100000 in
theorem PUint16_any {l:List UInt8} (h0:0 < l.length) (hl:l.length≤12) (w:World):Calls Tryz.prog 134 #[.string ⟨l.toArray⟩,.int .i64 16,.int .i64 0] w (fun e w'=>UAns l e∧Below w.heap.size w w'):=by
 obtain ⟨t,ht⟩:∃t:ByteArray,(⟨l.toArray⟩:ByteArray)=t:=⟨_,rfl⟩
 obtain ⟨n,hn⟩:∃n,l.length=n:=⟨_,rfl⟩
 have htl:t.data.toList=l:=by rw [←ht]
 have hsz:t.size=n:=by rw [←ht,←hn];simp [ByteArray.size]
 rw [ht]
 have hemp:t.toList.isEmpty=false:=by
  rw [←decide_eq_emptyBytes]
  refine decide_eq_false (fun h=>?_)
  have:n=0:=by rw [←hsz,h];rfl
  omega
 have hcv:=Lib.run_convert_string_bytes (P:=Tryz.prog) w 9 44 5 t (u:=.string) Tryz.underlying9 Tryz.underlying44 Tryz.underlying5
 have hB:∀j,j < t.size→(Lib.bytesWorld w 5 t).cell? ⟨w.heap.size,j,none⟩=some (.int .u8 (t.data.toList.getD j 0).toNat):=fun j hj=>Lib.bytesWorld_cell w 5 t j hj
 have hbw:=Lib.bytesWorld_below w 5 t
 rw [htl] at hB
 obtain ⟨W1,hW1⟩:∃W1,W1=Lib.bytesWorld w 5 t:=⟨_,rfl⟩
 rw [←hW1] at hcv hB hbw
 rw [hsz] at hB
 have HBW:=hide hbw
 have HN:=hide hn
 have HP:=hide (show 16 ^ n≤281474976710656 from by
  have:=Nat.pow_le_pow_right (show 16 > 0 by decide) (show n≤12 by omega)
  have e:(16:Nat) ^ 12=281474976710656:=by decide
  omega)
 have hmv:IntKind.u64.wrap (IntKind.u64.wrap 18446744073709551616 - 1)=18446744073709551615:=by
  rw [IntKind.wrap_u64,IntKind.wrap_u64]
  decide
 clear hW1 ht htl hbw
 go_enter Tryz.func134,Tryz.ntmps134
 go_wp2_with fail
 go_loop [12,13,101] (fun vu vn vi=>∃(k acc:Nat) (a:Int),vu=.bool false∧vn=.int .u64 a∧vi=.int .i64 k∧k≤n∧Hid (a=(acc:Int)∧acc < 16 ^ k∧((l.take k).all isH=true→acc=numH (l.take k)))) (fun _ _ vi=>n - (intOf vi).toNat)
 case atStart=>exact ⟨0,0,0,rfl,rfl,rfl,by omega,hide ⟨rfl,by decide,fun _=>rfl⟩⟩
 case round =>
  obtain ⟨k,acc,a,rfl,rfl,rfl,hk,hh⟩:=hrel
  obtain ⟨ha,hacc,hdec⟩:=hh.out
  clear hh
  by_cases hkn:k < n
  ·obtain ⟨c,hc⟩:∃c,l[k]?=some c:=⟨_,List.getElem?_eq_getElem (by have:=HN.out;omega)⟩
   have hc1:=hB k hkn
   rw [List.getD_eq_getElem?_getD,hc,Option.getD_some] at hc1
   have hkp:16 ^ k*16≤281474976710656:=by
    have:=Nat.pow_le_pow_right (show 16 > 0 by decide) (show k+1≤n by omega)
    have:=HP.out
    rw [←Nat.pow_succ]
    omega
   have a0:0≤a:=by omega
   have a1:a < 17592186044416:=by omega
   have hc256:c.toNat < 256:=c.toNat_lt
   have htk:l.take (k+1)=l.take k++[c]:=by rw [List.take_add_one,hc,Option.toList_some]
   have hkn2:(k:Int) < (n:Int):=by omega
   obtain ⟨L,hL⟩:∃L,lowH c=L:=⟨_,rfl⟩
   obtain ⟨l0,l1,l2⟩:=low_all c
   rw [hL] at l0 l1 l2
   have HCC:=hide hc
   clear hB hc
   by_cases hdig:48≤c.toNat∧c.toNat≤57
   ·obtain ⟨hd0,hd1⟩:=hdig
    have HNX:=hide (show a*16+((c.toNat:Int) - 48)=((acc*16+(c.toNat - 48):Nat):Int)∧acc*16+(c.toNat - 48) < 16 ^ (k+1)∧((l.take (k+1)).all isH=true→acc*16+(c.toNat - 48)=numH (l.take (k+1))) from by
     refine ⟨by omega,by rw [Nat.pow_succ];omega,fun h=>?_⟩
     rw [htk,List.all_append,Bool.and_eq_true] at h
     have hcH:isH c=true:=by simpa using h.2
     rw [htk,numH_snoc,if_pos hcH,←hdec h.1]
     unfold valH
     rw [if_pos hd1])
    clear hdec htk hacc ha l2 hkp
    go_wp2_with fail
    refine ⟨⟨k+1,acc*16+(c.toNat - 48),a*16+((c.toNat:Int) - 48),rfl,(by first|rfl|(congr 1;omega)),(by first|rfl|(congr 1;omega)),by omega,HNX⟩,by simp [intOf];omega⟩
   ·have HLL:=hide hL
    have HNF0:=hide (fun (h:isH c=false)=>show l.all isH=false from by
     rw [List.all_eq_false]
     exact ⟨c,List.mem_of_getElem? HCC.out,by rw [h];decide⟩)
    clear hL
    by_cases h95:c.toNat=95
    ·have h95':(c.toNat:Int)=95:=by omega
     have hc95:c=95:=UInt8.toNat_inj.1 h95
     have hL1:L=127:=by rw [←HLL.out,hc95];decide
     subst hL1
     have HNF:=hide (HNF0.out (by rw [hc95];decide))
     clear hdec htk hacc ha l2 hkp l0 l1 hdig h95 hc95 HNF0
     go_wp2_with (go_at_call 155;refine (lower_95 _).mono ?_;rintro e w' ⟨rfl,rfl⟩)
     all_goals go_ret2
     all_goals exact ⟨⟨0,Nat.pow_pos (by decide),fun h=>absurd (h.symm.trans HNF.out) (by decide),.inr ⟨rfl,HNF.out,rfl⟩⟩,HBW.out⟩
    have h95':¬(c.toNat:Int)=95:=by omega
    by_cases hlr:97≤L∧L≤102
    ·obtain ⟨hr0,hr1⟩:=hlr
     have HNX:=hide (show a*16+(L - 97+10)=((acc*16+(L - 87).toNat:Nat):Int)∧acc*16+(L - 87).toNat < 16 ^ (k+1)∧((l.take (k+1)).all isH=true→acc*16+(L - 87).toNat=numH (l.take (k+1))) from by
      refine ⟨by omega,by rw [Nat.pow_succ];omega,fun h=>?_⟩
      rw [htk,List.all_append,Bool.and_eq_true] at h
      have hcH:isH c=true:=by simpa using h.2
      have hc9:=(l2 hcH hdig).2.2
      rw [htk,numH_snoc,if_pos hcH,←hdec h.1]
      unfold valH
      rw [if_neg (by omega)]
      omega)
     have hnd:¬(48≤(c.toNat:Int)∧(c.toNat:Int)≤57):=by omega
     have hnd2:(48:Int)≤(c.toNat:Int)→¬(c.toNat:Int)≤57:=by omega
     clear hdec htk hacc ha l2 hkp hdig HNF0 h95
     by_cases h48:(48:Int)≤(c.toNat:Int)
     ·have h57:=hnd2 h48
      clear hnd hnd2
      go_wp2_with (go_at_call 155;refine (lower_e HLL.out _).mono ?_;rintro e w' ⟨rfl,rfl⟩)
      refine ⟨⟨k+1,acc*16+(L - 87).toNat,a*16+(L - 97+10),rfl,(by first|rfl|(congr 1;omega)),(by first|rfl|(congr 1;omega)),by omega,HNX⟩,by simp [intOf];omega⟩
     ·clear hnd hnd2
      go_wp2_with (go_at_call 155;refine (lower_e HLL.out _).mono ?_;rintro e w' ⟨rfl,rfl⟩)
      refine ⟨⟨k+1,acc*16+(L - 87).toNat,a*16+(L - 97+10),rfl,(by first|rfl|(congr 1;omega)),(by first|rfl|(congr 1;omega)),by omega,HNX⟩,by simp [intOf];omega⟩
    ·have HNF:=hide (HNF0.out (by
      cases hcH:isH c with
      | false=>rfl
      | true=>have:=l2 hcH hdig;omega))
     by_cases hlo:L < 97
     ·have hlo':¬97≤L:=by omega
      clear hdec htk hacc ha l2 hkp hlr HNF0 h95
      go_wp2_with (go_at_call 155;refine (lower_e HLL.out _).mono ?_;rintro e w' ⟨rfl,rfl⟩)
      all_goals go_ret2
      all_goals exact ⟨⟨0,Nat.pow_pos (by decide),fun h=>absurd (h.symm.trans HNF.out) (by decide),.inr ⟨rfl,HNF.out,rfl⟩⟩,HBW.out⟩
     ·have hlo':97≤L:=by omega
      by_cases hhi:L≤122
      ·have h103:103≤L:=by omega
       clear hdec htk hacc ha l2 hkp hlr HNF0 h95
       go_wp2_with (go_at_call 155;refine (lower_e HLL.out _).mono ?_;rintro e w' ⟨rfl,rfl⟩)
       all_goals go_ret2
       all_goals exact ⟨⟨0,Nat.pow_pos (by decide),fun h=>absurd (h.symm.trans HNF.out) (by decide),.inr ⟨rfl,HNF.out,rfl⟩⟩,HBW.out⟩
      ·have h123:122 < L:=by omega
       clear hdec htk hacc ha l2 hkp hlr HNF0 h95
       go_wp2_with (go_at_call 155;refine (lower_e HLL.out _).mono ?_;rintro e w' ⟨rfl,rfl⟩)
       all_goals go_ret2
       all_goals exact ⟨⟨0,Nat.pow_pos (by decide),fun h=>absurd (h.symm.trans HNF.out) (by decide),.inr ⟨rfl,HNF.out,rfl⟩⟩,HBW.out⟩
  ·obtain rfl:k=n:=by omega
   have hkn2:¬((k:Int) < (k:Int)):=by omega
   clear hB
   go_wp2_with fail
   go_ret2
   rw [List.take_of_length_le (by rw [HN.out];exact Nat.le_refl _)] at hdec
   exact ⟨⟨acc,by rw [HN.out];exact hacc,hdec,.inl (by first|rfl|(rw [ha];rfl))⟩,HBW.out⟩
end Go.Proofs.YtpndfahgflgocaaGreatDoor

