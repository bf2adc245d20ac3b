import Derived.Below

namespace Go.Proofs.YtnhegahpfacdgaaDoor
theorem pu1 {α:Type} (l:List α) (i:Nat) (a:α):l.toArray.setIfInBounds i a=(l.set i a).toArray:=List.setIfInBounds_toArray ..
theorem pu2 {α:Type} {a b:α} {l:List α}:(a::l).set 0 b=b::l:=List.set_cons_zero ..
theorem pu4 {g b:Nat} (h:b≤g):∀k,some g=some k→b≤k:=fun k hk=>by have:=Option.some.inj hk;omega
theorem pu5 {g h:Nat} (hn:g≠h):some g≠some h:=fun e=>hn (Option.some.inj e)
theorem pu3 {α:Type} {a b:α} {l:List α} {n:Nat}:(a::l).set (n+1) b=a::l.set n b:=List.set_cons_succ ..
end Go.Proofs.YtnhegahpfacdgaaDoor
namespace Go.Proofs.YtnhegahpfacdgaaDoor.Plain

open Go.RowKit in
theorem hide {p:Prop} (h:p):Hid p:=h

def isz (s:Int):Bool:=s==1||s==2||s==4
def val : List UInt8 → Nat
 | []=>0
 | b::r=>b.toNat+256*val r
theorem val_lt (l:List UInt8):val l < 256 ^ l.length:=by
 induction l with
 | nil=>simp [val]
 | cons b r ih =>
  have:=b.toNat_lt
  simp only [val,List.length_cons,Nat.pow_succ]
  omega
def hold (m:Nat) (p s:Int):Bool:=isz s&&(decide (0≤p)&&decide (p≤m - s))
end Go.Proofs.YtnhegahpfacdgaaDoor.Plain

namespace Go.Proofs.YtnhegahpfacdgaaDoor
open Plain

def digH (n:Nat):UInt8:=if n < 10 then UInt8.ofNat (48+n) else UInt8.ofNat (87+n)
def hexN : Nat → Nat → List UInt8
 | 0,_=>[]
 | k+1,n=>hexN k (n / 16)++[digH (n % 16)]
def isH (c:UInt8):Bool:=decide (48≤c.toNat∧c.toNat≤57)||decide (97≤c.toNat∧c.toNat≤102)
def valH (c:UInt8):Nat:=if c.toNat≤57 then c.toNat - 48 else c.toNat - 87
def numH (l:List UInt8):Nat:=l.foldl (fun a c=>if isH c=true then a*16+valH c else a) 0
theorem dig_fin:∀n:Fin 16,isH (digH n.1)=true∧valH (digH n.1)=n.1∧(digH n.1).toNat=(if n.1 < 10 then 48+n.1 else 87+n.1):=by decide +kernel
theorem dig_is {n:Nat} (h:n < 16):isH (digH n)=true:=(dig_fin ⟨n,h⟩).1
theorem dig_val {n:Nat} (h:n < 16):valH (digH n)=n:=(dig_fin ⟨n,h⟩).2.1
theorem val_dig {c:UInt8} (h:isH c=true):digH (valH c)=c:=by
 have h1:∀n:Fin 256,isH (UInt8.ofNat n.1)=true→digH (valH (UInt8.ofNat n.1))=UInt8.ofNat n.1:=by decide +kernel
 have h2:=h1 ⟨c.toNat,c.toNat_lt⟩
 have e:UInt8.ofNat c.toNat=c:=by simp
 simp only [e] at h2
 exact h2 h
theorem val_lt {c:UInt8} (h:isH c=true):valH c < 16:=by
 unfold isH at h
 unfold valH
 rw [Bool.or_eq_true,decide_eq_true_eq,decide_eq_true_eq] at h
 split <;> omega
theorem hexN_len : ∀ k n, (hexN k n).length = k
 | 0,_=>rfl
 | k+1,n=>by rw [hexN,List.length_append,hexN_len k];rfl
theorem hexN_all : ∀ k n, (hexN k n).all isH = true
 | 0,_=>rfl
 | k+1,n=>by
  rw [hexN,List.all_append,hexN_all k]
  simp [dig_is (Nat.mod_lt n (by decide:16 > 0))]
theorem numH_snoc (l:List UInt8) (c:UInt8):numH (l++[c])=if isH c=true then numH l*16+valH c else numH l:=by
 unfold numH
 rw [List.foldl_append]
 rfl
theorem numH_hex : ∀ k n, n < 16 ^ k → numH (hexN k n) = n
 | 0,n,h=>by simp at h;subst h;rfl
 | k+1,n,h=>by
  have h1:=Nat.mod_lt n (by decide:16 > 0)
  rw [hexN,numH_snoc,if_pos (dig_is h1),dig_val h1,numH_hex k (n / 16) (by rw [Nat.pow_succ] at h;omega)]
  omega
theorem numH_lt : ∀ (k : Nat) (l : List UInt8), l.length = k → numH l < 16 ^ k
 | 0,l,h=>by
  rw [List.length_eq_zero_iff.1 h]
  decide
 | k+1,l,h=>by
  obtain ⟨r,c,rfl⟩:∃r c,l=r++[c]:=by
   rcases List.eq_nil_or_concat l with e|⟨r,c,e⟩
   ·rw [e] at h;cases h
   ·exact ⟨r,c,by rw [e,List.concat_eq_append]⟩
  have h1:=numH_lt k r (by rw [List.length_append] at h;simpa using h)
  rw [numH_snoc,Nat.pow_succ]
  split
  ·rename_i hc
   have:=val_lt hc
   omega
  ·omega
theorem hex_numH : ∀ (k : Nat) (l : List UInt8), l.length = k → l.all isH = true → hexN k (numH l) = l
 | 0,l,h,_=>by rw [List.length_eq_zero_iff.1 h];rfl
 | k+1,l,h,ha=>by
  obtain ⟨r,c,rfl⟩:∃r c,l=r++[c]:=by
   rcases List.eq_nil_or_concat l with e|⟨r,c,e⟩
   ·rw [e] at h;cases h
   ·exact ⟨r,c,by rw [e,List.concat_eq_append]⟩
  rw [List.all_append,Bool.and_eq_true] at ha
  have hc:isH c=true:=by simpa using ha.2
  have hv:=val_lt hc
  rw [numH_snoc,if_pos hc,hexN,show (numH r*16+valH c) / 16=numH r from by omega,show (numH r*16+valH c) % 16=valH c from by omega,hex_numH k r (by rw [List.length_append] at h;simpa using h) ha.1,val_dig hc]
theorem hexN_cons : ∀ j n, hexN (j + 1) n = digH (n / 16 ^ j % 16) :: hexN j n
 | 0,n=>by simp [hexN]
 | j+1,n=>by
  rw [hexN,hexN_cons j (n / 16),hexN.eq_def (j+1) n]
  simp only [List.cons_append]
  rw [Nat.div_div_eq_div_mul,show 16*16 ^ j=16 ^ (j+1) from by rw [Nat.pow_succ,Nat.mul_comm]]
theorem hexN_pad {m n : Nat} (h : n < 16 ^ m) : ∀ d, hexN (d + m) n = List.replicate d 48 ++ hexN m n
 | 0=>by simp
 | d+1=>by
  rw [show d+1+m=d+m+1 from by omega,hexN_cons,hexN_pad h d]
  have h1:n / 16 ^ (d+m)=0:=Nat.div_eq_of_lt (Nat.lt_of_lt_of_le h (Nat.pow_le_pow_right (by decide) (by omega)))
  rw [h1]
  rfl
theorem hexN_few {m n k:Nat} (h:n < 16 ^ k) (h2:m=1∨16 ^ (m - 1)≤n) (hk:1≤k):m≤k:=by
 rcases Nat.lt_or_ge k m with h3|h3
 ·rcases h2 with h2|h2
  ·omega
  ·have:=Nat.pow_le_pow_right (show 16 > 0 by decide) (show k≤m - 1 by omega)
   omega
 ·exact h3

abbrev OriV:=Int×Int×Int
def mayH (o:OriV):Bool:=decide (1≤o.1∧o.1≤15∧0≤o.2.1∧o.2.1≤65535∧0≤o.2.2∧o.2.2≤268435455)
def textH (o:OriV):List UInt8:=hexN 1 o.1.toNat++hexN 4 o.2.1.toNat++hexN 7 o.2.2.toNat
def nameH (o:OriV):List UInt8:=if mayH o=true then textH o else []
def oriH (s:List UInt8):OriV:=((numH (s.take 1):Nat),(numH ((s.drop 1).take 4):Nat),(numH (s.drop 5):Nat))
def isN (s:List UInt8):Bool:=decide (s.length=12)&&s.all isH&&decide (1≤numH (s.take 1))
def parseH (s:List UInt8):OriV:=if isN s=true then oriH s else (0,0,0)
theorem textH_len (o:OriV):(textH o).length=12:=by
 unfold textH
 rw [List.length_append,List.length_append,hexN_len,hexN_len,hexN_len]
theorem text_cuts (o:OriV):(textH o).take 1=hexN 1 o.1.toNat∧((textH o).drop 1).take 4=hexN 4 o.2.1.toNat∧(textH o).drop 5=hexN 7 o.2.2.toNat:=by
 unfold textH
 have h1:=hexN_len 1 o.1.toNat
 have h4:=hexN_len 4 o.2.1.toNat
 refine ⟨?_,?_,?_⟩
 ·rw [List.append_assoc,List.take_append_of_le_length (by omega),List.take_of_length_le (by omega)]
 ·rw [List.append_assoc,List.drop_append,List.drop_of_length_le (by omega),h1,List.nil_append,Nat.sub_self,List.drop_zero,List.take_append_of_le_length (by omega),List.take_of_length_le (by omega)]
 ·rw [List.drop_append,List.drop_of_length_le (by rw [List.length_append];omega),List.length_append,h1,h4,List.nil_append]
  rfl
theorem parse_text {o:OriV} (h:mayH o=true):isN (textH o)=true∧oriH (textH o)=o:=by
 obtain ⟨a,b,c⟩:=o
 have hm:1≤a∧a≤15∧0≤b∧b≤65535∧0≤c∧c≤268435455:=of_decide_eq_true h
 obtain ⟨c1,c2,c3⟩:=text_cuts (a,b,c)
 have n1:=numH_hex 1 a.toNat (by omega)
 have n2:=numH_hex 4 b.toNat (by omega)
 have n3:=numH_hex 7 c.toNat (by omega)
 refine ⟨?_,?_⟩
 ·unfold isN
  rw [c1,n1,textH_len,Bool.and_eq_true,Bool.and_eq_true]
  refine ⟨⟨rfl,?_⟩,decide_eq_true (by omega)⟩
  unfold textH
  rw [List.all_append,List.all_append,hexN_all,hexN_all,hexN_all]
  rfl
 ·unfold oriH
  rw [c1,c2,c3,n1,n2,n3]
  show (((a.toNat:Nat):Int),((b.toNat:Nat):Int),((c.toNat:Nat):Int))=(a,b,c)
  rw [Int.toNat_of_nonneg (by omega),Int.toNat_of_nonneg (by omega),Int.toNat_of_nonneg (by omega)]
theorem text_parse {s:List UInt8} (h:isN s=true):mayH (oriH s)=true∧textH (oriH s)=s:=by
 unfold isN at h
 rw [Bool.and_eq_true,Bool.and_eq_true] at h
 obtain ⟨⟨h1,h2⟩,h3⟩:=h
 have h1:=of_decide_eq_true h1
 have h3:=of_decide_eq_true h3
 have e:s=s.take 1++(s.drop 1).take 4++s.drop 5:=by
  rw [List.append_assoc]
  conv=>lhs;rw [←List.take_append_drop 1 s,←List.take_append_drop 4 (s.drop 1),List.drop_drop]
 have a1:(s.take 1).all isH=true:=List.all_eq_true.2 (fun x hx=>List.all_eq_true.1 h2 x (List.mem_of_mem_take hx))
 have a2:((s.drop 1).take 4).all isH=true:=List.all_eq_true.2 (fun x hx=>List.all_eq_true.1 h2 x (List.mem_of_mem_drop (List.mem_of_mem_take hx)))
 have a3:(s.drop 5).all isH=true:=List.all_eq_true.2 (fun x hx=>List.all_eq_true.1 h2 x (List.mem_of_mem_drop hx))
 have l1:(s.take 1).length=1:=by rw [List.length_take];omega
 have l2:((s.drop 1).take 4).length=4:=by rw [List.length_take,List.length_drop];omega
 have l3:(s.drop 5).length=7:=by rw [List.length_drop];omega
 have b1:=numH_lt 1 _ l1
 have b2:=numH_lt 4 _ l2
 have b3:=numH_lt 7 _ l3
 constructor
 ·unfold mayH oriH
  refine decide_eq_true ?_
  simp only
  omega
 ·unfold textH oriH
  simp only [Int.toNat_natCast]
  rw [hex_numH 1 _ l1 a1,hex_numH 4 _ l2 a2,hex_numH 7 _ l3 a3]
  exact e.symm
theorem name_iff {o:OriV} {s:List UInt8}:(mayH o=true∧textH o=s)↔(isN s=true∧oriH s=o):=by
 constructor
 ·rintro ⟨h,rfl⟩;exact parse_text h
 ·rintro ⟨h,rfl⟩;exact text_parse h
end Go.Proofs.YtnhegahpfacdgaaDoor

