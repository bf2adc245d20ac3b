import Derived.Below
import Derived.Laws.FloatArith

namespace Go.Proofs.Ytggnbflbbfdohaa.Plain
open Ieee

def F (n:Nat):Nat:=double.nearest false n 0

theorem double_least:double.leastPlace = -1074:=by decide
theorem double_binade:double.binade=2 ^ 52:=by decide
theorem double_inf:double.infRung=2047*2 ^ 52:=by decide
theorem double_sign:double.signWeight=2 ^ 63:=by decide

theorem log2_scaled {n:Nat} (k:Nat) (hn:n≠0):(n*2 ^ k).log2=n.log2+k:=by
 have hp:0 < 2 ^ k:=Nat.two_pow_pos k
 rw [Nat.log2_eq_iff (Nat.mul_ne_zero hn (by omega))]
 have h1:=Nat.log2_self_le hn
 have h2:=Nat.lt_log2_self (n:=n)
 refine ⟨?_,?_⟩
 ·rw [Nat.pow_add];exact Nat.mul_le_mul_right _ h1
 ·rw [show n.log2+k+1=(n.log2+1)+k from by omega,Nat.pow_add];exact Nat.mul_lt_mul_of_pos_right h2 hp
theorem log2_le52 {n:Nat} (hn:n < 2 ^ 53) (h0:n≠0):n.log2≤52:=by
 have:=(Nat.log2_lt h0).2 hn
 omega
theorem kept_bounds {n:Nat} (hn:n < 2 ^ 53) (h0:n≠0):2 ^ 52≤n*2 ^ (52 - n.log2)∧n*2 ^ (52 - n.log2) < 2 ^ 53:=by
 have h:=log2_le52 hn h0
 have h1:=Nat.log2_self_le h0
 have h2:=Nat.lt_log2_self (n:=n)
 have hp:0 < 2 ^ (52 - n.log2):=Nat.two_pow_pos _
 refine ⟨?_,?_⟩
 ·calc 2 ^ 52 = 2 ^ n.log2 * 2 ^ (52 - n.log2) := by rw [← Nat.pow_add]; congr 1; omega
   _≤_:=Nat.mul_le_mul_right _ h1
 ·calc n * 2 ^ (52 - n.log2) < 2 ^ (n.log2 + 1) * 2 ^ (52 - n.log2) := Nat.mul_lt_mul_of_pos_right h2 hp
   _=2 ^ 53:=by rw [←Nat.pow_add];congr 1;omega
theorem cut_whole (a d:Nat) (s:Bool) (w:Toward) (hw:w=.even∨w=.zero) (h:a=0∨d≤(a*2 ^ d).log2+2):w.cut s (a*2 ^ d) d=a:=by
 rcases h with rfl|h
 ·rcases hw with rfl|rfl <;> simp [Toward.cut,Nat.one_shiftLeft]
 ·have hp:0 < 2 ^ d:=Nat.two_pow_pos d
  have hm:min d ((a*2 ^ d).log2+2)=d:=Nat.min_eq_left h
  have h1:a*2 ^ d / 2 ^ d=a:=Nat.mul_div_cancel _ hp
  have h2:a*2 ^ d % 2 ^ d=0:=Nat.mul_mod_left _ _
  rcases hw with rfl|rfl
  ·simp only [Toward.cut,hm,Nat.one_shiftLeft,h1,h2]
   have e1:decide (2 ^ d < 2*0)=false:=by simp
   have e2:(2 ^ d==2*0)=false:=by simp
   rw [e1,e2]
   rfl
  ·simp only [Toward.cut,hm,Nat.one_shiftLeft,h1]
   rfl

theorem nearest_scaled {n:Nat} (k:Nat) (hn:n < 2 ^ 53) (h0:n≠0) :
  double.nearest false (n*2 ^ k) (-(k:Int))=(n.log2+1022)*2 ^ 52+n*2 ^ (52 - n.log2):=by
 have hl:=log2_le52 hn h0
 obtain ⟨hb1,hb2⟩:=kept_bounds hn h0
 have hm0:n*2 ^ k≠0:=Nat.mul_ne_zero h0 (by have:=Nat.two_pow_pos k;omega)
 have hlast:max (-(k:Int)+((n*2 ^ k).log2:Nat) - (double.fractionBits:Nat)) double.leastPlace=(n.log2:Int) - 52:=by
  rw [log2_scaled k h0,double_least]
  show max (-(k:Int)+((n.log2+k:Nat):Int) - ((52:Nat):Int)) (-1074)=_
  omega
 have hkept:Toward.even.cut false ((n*2 ^ k) <<< (-(k:Int) - ((n.log2:Int) - 52)).toNat) (((n.log2:Int) - 52) - -(k:Int)).toNat=n*2 ^ (52 - n.log2):=by
  by_cases hk:k≤52 - n.log2
  ·have e1:(-(k:Int) - ((n.log2:Int) - 52)).toNat=52 - n.log2 - k:=by omega
   have e2:(((n.log2:Int) - 52) - -(k:Int)).toNat=0:=by omega
   rw [e1,e2,Nat.shiftLeft_eq,Nat.mul_assoc,←Nat.pow_add,show k+(52 - n.log2 - k)=52 - n.log2 from by omega]
   have:=cut_whole (n*2 ^ (52 - n.log2)) 0 false .even (.inl rfl) (.inr (by omega))
   rwa [Nat.pow_zero,Nat.mul_one] at this
  ·have e1:(-(k:Int) - ((n.log2:Int) - 52)).toNat=0:=by omega
   have e2:(((n.log2:Int) - 52) - -(k:Int)).toNat=k - (52 - n.log2):=by omega
   rw [e1,e2,Nat.shiftLeft_zero]
   have hd:n*2 ^ k=(n*2 ^ (52 - n.log2))*2 ^ (k - (52 - n.log2)):=by
    rw [Nat.mul_assoc,←Nat.pow_add];congr 2;omega
   rw [hd]
   exact cut_whole _ _ false .even (.inl rfl) (.inr (by rw [←hd,log2_scaled k h0];omega))
 unfold Format.nearest
 rw [if_neg hm0]
 simp only [hlast,hkept]
 simp only [double_least,double_binade,double_inf,Format.word]
 have e3:((n.log2:Int) - 52 - -1074).toNat=n.log2+1022:=by omega
 rw [e3]
 simp only [Bool.false_eq_true,if_false]
 exact Nat.min_eq_left (by omega)

theorem F_val {n:Nat} (hn:n < 2 ^ 53) (h0:n≠0):F n=(n.log2+1022)*2 ^ 52+n*2 ^ (52 - n.log2):=by
 have:=nearest_scaled 0 hn h0
 rw [Nat.pow_zero,Nat.mul_one] at this
 exact this
theorem F_zero:F 0=0:=by decide
theorem near_F (n k:Nat) (hn:n < 2 ^ 53):double.nearest false (n*2 ^ k) (-(k:Int))=F n:=by
 by_cases h0:n=0
 ·subst h0
  rw [Nat.zero_mul,F_zero]
  simp [Format.nearest,Format.word]
 ·rw [nearest_scaled k hn h0,F_val hn h0]
theorem F_read {n:Nat} (hn:n < 2 ^ 53):∃k:Nat,double.read (F n)=.number false (n*2 ^ k) (-(k:Int)):=by
 by_cases h0:n=0
 ·subst h0
  obtain ⟨K,hK⟩:∃K:Nat,K=1074:=⟨_,rfl⟩
  refine ⟨K,?_⟩
  rw [F_zero,Nat.zero_mul,hK]
  decide
 ·have hl:=log2_le52 hn h0
  obtain ⟨hb1,hb2⟩:=kept_bounds hn h0
  refine ⟨52 - n.log2,?_⟩
  rw [F_val hn h0]
  generalize n*2 ^ (52 - n.log2)=q at hb1 hb2 ⊢
  have e1:((n.log2+1022)*2 ^ 52+q) / 2 ^ 63 % 2=0:=by omega
  have e2:((n.log2+1022)*2 ^ 52+q) % 2 ^ 63=(n.log2+1022)*2 ^ 52+q:=by omega
  have e3:¬(n.log2+1022)*2 ^ 52+q < 2 ^ 52:=by omega
  have e4:(n.log2+1022)*2 ^ 52+q < 2047*2 ^ 52:=by omega
  have e5:((n.log2+1022)*2 ^ 52+q) % 2 ^ 52=q - 2 ^ 52:=by omega
  have e6:((n.log2+1022)*2 ^ 52+q) / 2 ^ 52=n.log2+1023:=by omega
  unfold Format.read
  simp only [double_sign,double_binade,double_inf,double_least,e1,e2,if_neg e3,if_pos e4,e5,e6]
  rw [Datum.number.injEq]
  exact ⟨rfl,by omega,by omega⟩
theorem F_add {a b:Nat} (h:a+b < 2 ^ 53):double.add (F a) (F b)=some (F (a+b)):=by
 obtain ⟨i,hi⟩:=F_read (show a < 2 ^ 53 by omega)
 obtain ⟨j,hj⟩:=F_read (show b < 2 ^ 53 by omega)
 unfold Format.add
 rw [hi,hj]
 simp only [Datum.sum,Option.map_some,signed,Bool.false_eq_true,if_false,Bool.false_and]
 obtain ⟨m,hm1,hm2,hm⟩:∃m:Nat,i≤m∧j≤m∧min (-(i:Int)) (-(j:Int)) = -(m:Int):=⟨max i j,Nat.le_max_left _ _,Nat.le_max_right _ _,by omega⟩
 rw [hm]
 have e1:(-(i:Int) - -(m:Int)).toNat=m - i:=by omega
 have e2:(-(j:Int) - -(m:Int)).toNat=m - j:=by omega
 rw [e1,e2,Nat.shiftLeft_eq,Nat.shiftLeft_eq,Nat.mul_assoc,Nat.mul_assoc,←Nat.pow_add,←Nat.pow_add,show i+(m - i)=m from by omega,show j+(m - j)=m from by omega]
 have e3:((a*2 ^ m:Nat):Int)+((b*2 ^ m:Nat):Int)=(((a+b)*2 ^ m:Nat):Int):=by rw [Nat.add_mul];omega
 rw [e3]
 have e4:(if ((((a+b)*2 ^ m:Nat):Int)=0) then false else decide ((((a+b)*2 ^ m:Nat):Int) < 0))=false:=by
  split
  ·rfl
  ·exact decide_eq_false (Int.not_lt.2 (Int.natCast_nonneg _))
 rw [e4,Int.natAbs_natCast]
 exact congrArg some (near_F (a+b) m h)
theorem F_int {n:Nat} (hn:n < 2 ^ 53):(double.read (F n)).toInt .zero=some (n:Int):=by
 obtain ⟨k,hk⟩:=F_read hn
 rw [hk]
 simp only [Datum.toInt,Datum.integral]
 have e1:(-(k:Int)).toNat=0:=by omega
 have e2:(- -(k:Int)).toNat=k:=by omega
 rw [e1,e2,Nat.shiftLeft_zero]
 have:=cut_whole n k false .zero (.inr rfl) (by
  by_cases h0:n=0
  ·exact .inl h0
  ·right;rw [log2_scaled k h0];omega)
 rw [this]
 simp [signed]
end Go.Proofs.Ytggnbflbbfdohaa.Plain

namespace Go.Proofs.Ytggnbflbbfdohaa
theorem pu1 {α:Type} (l:List α) (i:Nat) (a:α):l.toArray.setIfInBounds i a=(l.set i a).toArray:=List.setIfInBounds_toArray ..
theorem pu2 {α:Type} {a b:α} {l:List α}:(a::l).set 0 b=b::l:=List.set_cons_zero ..
theorem pu4 {g b:Nat} (h:b≤g):∀k,some g=some k→b≤k:=fun k hk=>by have:=Option.some.inj hk;omega
theorem pu5 {g h:Nat} (hn:g≠h):some g≠some h:=fun e=>hn (Option.some.inj e)
theorem pu3 {α:Type} {a b:α} {l:List α} {n:Nat}:(a::l).set (n+1) b=a::l.set n b:=List.set_cons_succ ..
end Go.Proofs.Ytggnbflbbfdohaa
namespace Go.Proofs.Ytggnbflbbfdohaa.Plain

open Go.RowKit in
theorem hide {p:Prop} (h:p):Hid p:=h

def isz (s:Int):Bool:=s==1||s==2||s==4
def hold (m:Nat) (p s:Int):Bool:=isz s&&(decide (0≤p)&&decide (p≤m - s))
end Go.Proofs.Ytggnbflbbfdohaa.Plain

