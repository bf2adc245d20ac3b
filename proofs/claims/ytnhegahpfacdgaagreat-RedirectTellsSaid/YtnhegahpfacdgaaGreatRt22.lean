import Derived.Test.YtnhegahpfacdgaaGreatRt21
import Derived.Test.YtnhegahpfacdgaaGreatRt10
import Derived.Test.YtnhegahpfacdgaaGreatRt20
import Derived.Lib.Join
import Derived.Test.YtnhegahpfacdgaaGreatRows
import Derived.Test.YtnhegahpfacdgaaGreatRt1
import Derived.IntWalk
import Derived.Laws.Cover3
import Derived.Test.YtnhegahpfacdgaaGreatRt9
import Derived.Lib.SlicesCompact
import Derived.Sort.Row
import Derived.Sort.OwnSorted
import Derived.Lib.RowBridge

namespace Go.Proofs.YtnhegahpfacdgaaGreat
open Go.RowKit Plain

def LRet2 (w:World) (e:Nat) (l:List (List UInt8)) (a b:Bool) (x:Ending) (w':World):Prop :=
 ∃A n c,x=.returned (.tuple #[.slice A n c,.bool a,.bool b])∧Ow st w' w.heap.size e A n c l∧Below w.heap.size w w'
theorem LRet2.nil {w w':World} {e:Nat} {a b:Bool} (h:Below w.heap.size w w'):LRet2 w e [] a b (.returned (.tuple #[.slice none 0 0,.bool a,.bool b])) w':=⟨none,0,0,rfl,Ow.nil_ _ _ _ _,h⟩

set_option maxHeartbeats 800000 in
theorem RRed_long {s:List UInt8} (w:World) (h:24 < s.length):Calls Tryz.prog 30 #[st s] w (LRet2 w 9 [] false false):=by
 show Calls _ _ #[.string ⟨s.toArray⟩] _ _
 go_enter Tryz.func30,Tryz.ntmps30
 go_wp2
 go_ret3
 exact LRet2.nil (below_self w)

set_option maxHeartbeats 800000 in
theorem RRed_abs {s:List UInt8} (w:World) (h:¬24 < s.length) (hh:headB s=true):Calls Tryz.prog 30 #[st s] w (LRet2 w 9 (splitS s) (splitB s) (splitB s)):=by
 show Calls _ _ #[.string ⟨s.toArray⟩] _ _
 obtain ⟨hj,hbj⟩:=headB_get hh
 have hl0:0 < s.length:=by cases s with|nil=>simp [headB] at hh|cons c r=>simp
 have hl2:s.length≤24:=by omega
 obtain ⟨l,hl⟩:∃l,splitS s=l:=⟨_,rfl⟩
 obtain ⟨b,hb⟩:∃b,splitB s=b:=⟨_,rfl⟩
 rw [hl,hb]
 have HL:=hide hl
 have HB:=hide hb
 clear hh h hl hb
 go_enter Tryz.func30,Tryz.ntmps30
 go_wp2_with fail
 refine (RSplit_any _ (by omega)).mono ?_
 rw [HL.out,HB.out]
 rintro e w1 ⟨A1,n1,c1,rfl,hown,hbel⟩
 have HO:=hide hown
 have HBE:=hide hbel
 clear hown hbel
 go_wp2_with fail
 go_ret3
 exact ⟨_,_,_,rfl,HO.out,HBE.out⟩

set_option maxHeartbeats 800000 in
theorem RRed_one {s:List UInt8} (w:World) (h:¬24 < s.length) (hh:headB s=false):Calls Tryz.prog 30 #[st s] w (LRet2 w 9 (if nameB s=true then [s] else []) false (nameB s)):=by
 show Calls _ _ #[.string ⟨s.toArray⟩] _ _
 cases hn:nameB s with
 | true =>
  have hl:=nameB_len hn
  have hl0:0 < s.length:=by omega
  obtain ⟨c,r,hs⟩:∃c r,s=c::r:=by cases s with|nil=>simp at hl0|cons c r=>exact ⟨c,r,rfl⟩
  have hj:0 < ByteArray.size ⟨s.toArray⟩:=hl0
  have hbj:(⟨s.toArray⟩:ByteArray)[0]'hj=c:=by subst hs;rfl
  have hc:c≠47:=by subst hs;simpa [headB] using hh
  have htest:((c.toNat:Int)==47)=false:=by
   simp only [beq_eq_false_iff_ne,ne_eq]
   intro e
   apply hc
   apply UInt8.toNat_inj.1
   have:c.toNat=47:=by omega
   rw [this]
   rfl
  have hl2:s.length≤24:=by omega
  have HN:=hide hn
  rw [if_pos rfl]
  clear hh h hn hl hs hc
  go_enter Tryz.func30,Tryz.ntmps30
  go_wp2_with fail
  refine (RNRight_b HN.out _ (by omega)).mono ?_
  rintro e w' ⟨rfl,rfl⟩
  go_wp2_with fail
  go_ret3
  exact ⟨_,_,_,rfl,Ow.lit w 9 (cs:=[.string ⟨s.toArray⟩]) rfl rfl (by omega),below_new (below_self w) _⟩
 | false =>
  have hl2:s.length≤24:=by omega
  have HN:=hide hn
  rw [if_neg (by simp)]
  cases s with
  | nil =>
   clear hh h hn
   go_enter Tryz.func30,Tryz.ntmps30
   go_wp2_with fail
   refine (RNRight_b (l:=[]) HN.out _ (by simp)).mono ?_
   rintro e w' ⟨rfl,rfl⟩
   go_wp2_with fail
   go_ret3
   exact LRet2.nil (below_self w)
  | cons c r =>
   have hj:0 < ByteArray.size ⟨(c::r).toArray⟩:=by simp [ByteArray.size]
   have hbj:(⟨(c::r).toArray⟩:ByteArray)[0]'hj=c:=rfl
   have hc:c≠47:=by simpa [headB] using hh
   have htest:((c.toNat:Int)==47)=false:=by
    simp only [beq_eq_false_iff_ne,ne_eq]
    intro e
    apply hc
    apply UInt8.toNat_inj.1
    have:c.toNat=47:=by omega
    rw [this]
    rfl
   obtain ⟨s,hs⟩:∃s,s=c::r:=⟨_,rfl⟩
   rw [←hs] at hl2 HN hj ⊢
   have hbj2:(⟨s.toArray⟩:ByteArray)[0]'hj=c:=by subst hs;rfl
   have hl0:0 < s.length:=by rw [hs];simp
   clear hh h hn hc hs hbj
   go_enter Tryz.func30,Tryz.ntmps30
   go_wp2_with fail
   refine (RNRight_b HN.out _ (by omega)).mono ?_
   rintro e w' ⟨rfl,rfl⟩
   go_wp2_with fail
   go_ret3
   exact LRet2.nil (below_self w)

theorem RRed_any {s:List UInt8} (w:World):Calls Tryz.prog 30 #[st s] w (LRet2 w 9 (redL s) (redA s) (redB s)):=by
 by_cases h:24 < s.length
 ·rw [show redL s=[] from by simp [redL,h],show redA s=false from by simp [redA,h],show redB s=false from by simp [redB,h]]
  exact RRed_long w h
 ·cases hh:headB s with
  | true =>
   rw [show redL s=splitS s from by simp [redL,h,hh],show redA s=splitB s from by simp [redA,h,hh],show redB s=splitB s from by simp [redB,h,hh]]
   exact RRed_abs w h hh
  | false =>
   rw [show redL s=(if nameB s=true then [s] else []) from by simp [redL,h,hh],show redA s=false from by simp [redA,hh],show redB s=nameB s from by simp [redB,h,hh]]
   exact RRed_one w h hh
end Go.Proofs.YtnhegahpfacdgaaGreat

namespace Go.Proofs.YtnhegahpfacdgaaGreat
open Go.RowKit Plain

theorem joinS_lib (l:List (List UInt8)):joinS l=47::Lib.join l [47]:=by
 induction l using snoc_ind with
 | h0=>rfl
 | h1 l x ih =>
  rw [joinS_snoc,ih]
  by_cases hl:l=[]
  ·subst hl
   simp [Lib.join,List.intercalate]
  ·rw [if_neg (by intro e;exact hl (List.eq_nil_of_length_eq_zero e))]
   obtain ⟨y,r,rfl⟩:∃y r,l=y::r:=by cases l with|nil=>exact absurd rfl hl|cons y r=>exact ⟨y,r,rfl⟩
   rw [Lib.join_cons,show (y::r)++[x]=y::(r++[x]) from rfl,Lib.join_cons]
   simp [Lib.joinTail]

set_option maxHeartbeats 400000 in
theorem PJoin_any {A:Option Addr} {m c:Nat} {l:List (List UInt8)} (w:World) (ha:Rd st w w.heap.size A m l) (hm:m≤2000000) (hmc:m≤c) (ht:totL l≤140737488355327) :
  Calls Tryz.prog 82 #[.slice A m c] w fun e w'=>e=.returned (st (joinS l))∧Below w.heap.size w w':=by
 have hjl:=joinS_length l
 rw [joinS_lib,List.length_cons] at hjl
 have hcon:∀w:World,Rd st w w.heap.size A m l→Calls Tryz.prog 101 #[.slice A m c,.string ⟨#[47]⟩] w fun e w'=>e=.returned (.string ⟨(Lib.join l [47]).toArray⟩)∧Below w.heap.size w w':=by
  intro w ha
  by_cases h0:m=0
  ·subst h0
   obtain rfl:l=[]:=List.eq_nil_of_length_eq_zero ha.len
   refine (Tryz.strings_Join_none A c ⟨#[47]⟩ w).mono ?_
   rintro e w' ⟨rfl,rfl⟩
   exact ⟨rfl,below_self _⟩
  ·obtain ⟨b,o,rfl,hb,hc⟩:=ha.2 (by omega)
   have hl:=ha.len
   have e1:(l.map fun x=>(⟨x.toArray⟩:ByteArray)).map (·.data.toList)=l:=by rw [List.map_map];exact List.map_id l
   have hlen:(l.map fun x=>(⟨x.toArray⟩:ByteArray)).length=m:=by simp [hl]
   have h:=Tryz.strings_Join b o c (l.map fun x=>⟨x.toArray⟩) ⟨#[47]⟩ w (fun j x hx=>by
    rw [List.getElem?_map,Option.map_eq_some_iff] at hx
    obtain ⟨y,hy,rfl⟩:=hx
    exact hc j y hy) hb (by omega) (by omega) (by rw [e1];show (Lib.join l [47]).length≤_;omega)
   rw [e1,hlen] at h
   exact h
 have HC:=hide hcon
 have HA:=hide ha
 have hadd:=fun W=>add_lists (P:=Tryz.prog) (x:=[47]) (y:=Lib.join l [47]) (z:=joinS l) (by simp;omega) (by rw [joinS_lib];rfl) W
 clear hcon ha hjl
 go_enter Tryz.func82,Tryz.ntmps82
 go_wp2_with fail
 refine (HC.out _ HA.out).mono ?_
 rintro e w1 ⟨rfl,hbel⟩
 have HB:=hide hbel
 clear hbel
 go_wp2_with fail
 go_ret
 exact ⟨rfl,HB.out⟩
theorem names_clean {s:List UInt8} (h:cleanB s=true):joinS (namesPt s)=cleanS s∧(namesPt s).all nameB=true∧(namesPt s).length≤1+s.length∧totL (namesPt s)≤(1+s.length)*(s.length+1):=by
 unfold cleanB at h
 rw [Bool.and_eq_true,Option.isSome_iff_exists] at h
 obtain ⟨hh,o,ho⟩:=h
 have e1:namesPt s=o:=by simp [namesPt,hh,ho]
 have e2:cleanS s=joinS o:=by unfold cleanS;rw [if_pos hh,ho]
 have hp:=partsS_len s
 have hl:=leftS_len _ _ ho
 have ht:=totL_le hp.2
 have hm:(partsS s).length*(s.length+1)≤(1+s.length)*(s.length+1):=Nat.mul_le_mul_right _ hp.1
 rw [e1,e2]
 exact ⟨rfl,left_all ho,by omega,by omega⟩
theorem split_iff (s:List UInt8):splitB s=(cleanB s&&(joinS (namesPt s)==s))∧splitS s=if splitB s=true then namesPt s else []:=by
 cases hc:cleanB s with
 | false =>
  have hs:splitB s=false:=by
   cases h:splitB s with
   | false=>rfl
   | true=>rw [(split_back h).2.1] at hc;cases hc
  refine ⟨by rw [hs];rfl,?_⟩
  rw [hs]
  unfold splitB at hs
  rw [Bool.or_eq_false_iff] at hs
  unfold splitS
  rw [if_neg (by simpa using hs.1),hs.2]
  rfl
 | true =>
  obtain ⟨hj,ha,_,_⟩:=names_clean hc
  by_cases he:joinS (namesPt s)=s
  ·obtain ⟨h1,h2⟩:=split_join ha
   rw [he] at h1 h2
   refine ⟨by rw [h1,he];simp,by rw [h1,if_pos rfl,h2]⟩
  ·have hs:splitB s=false:=by
    cases h:splitB s with
    | false=>rfl
    | true=>rw [hj] at he;exact absurd (split_back h).2.2 he
   have he2:(joinS (namesPt s)==s)=false:=by simpa using he
   refine ⟨by rw [hs,he2];rfl,?_⟩
   rw [hs]
   unfold splitB at hs
   rw [Bool.or_eq_false_iff] at hs
   unfold splitS
   rw [if_neg (by simpa using hs.1),hs.2]
   rfl

theorem mul_small {n:Nat} (h:n≤1100000):(1+n)*(n+1)≤1210002200001:=by
 have:(1+n)*(n+1)≤1100001*1100001:=Nat.mul_le_mul (by omega) (by omega)
 omega

set_option maxHeartbeats 800000 in
theorem PSplit_any {s:List UInt8} (w:World) (hs:s.length≤1100000):Calls Tryz.prog 53 #[st s] w (LRet w 9 (splitS s) (splitB s)):=by
 unfold st
 obtain ⟨q1,q2⟩:=split_iff s
 rw [q2]
 cases hc:cleanB s with
 | false =>
  rw [hc] at q1
  have hb:splitB s=false:=q1
  rw [hb]
  have HC:=hide hc
  clear q1 q2 hb hc
  go_enter Tryz.func53,Tryz.ntmps53
  go_wp2_with fail
  refine (names_any _ (by omega)).mono ?_
  rw [HC.out]
  rintro e w1 ⟨A1,n1,c1,rfl,hown,hbel⟩
  have HB:=hide hbel
  clear hown hbel
  go_wp2_with fail
  go_ret2
  exact LRet.nil HB.out
 | true =>
  obtain ⟨_,_,hn,ht⟩:=names_clean hc
  have hms:=mul_small hs
  rw [hc,Bool.true_and] at q1
  rw [q1]
  obtain ⟨l,hl⟩:∃l,namesPt s=l:=⟨_,rfl⟩
  rw [hl] at hn ht ⊢
  obtain ⟨j,hj⟩:∃j,joinS l=j:=⟨_,rfl⟩
  rw [hj]
  have HC:=hide hc
  have HL:=hide hl
  have HJ:=hide hj
  have HN:=hide hn
  have HT:=hide (Nat.le_trans ht hms)
  clear hc hl hj hn ht q1 q2 hms
  by_cases hjs:j=s
  ·have d1:(j != s)=false:=by simp [hjs]
   have d2:(j==s)=true:=by simp [hjs]
   rw [d2]
   clear hjs
   go_enter Tryz.func53,Tryz.ntmps53
   go_wp2_with fail
   refine (names_any _ (by omega)).mono ?_
   rw [HC.out,HL.out]
   rintro e w1 ⟨A1,n1,c1,rfl,hown,hbel⟩
   have HO:=hide hown
   have HB:=hide hbel
   have hnn:=hown.len
   have hcap:=hown.cap
   have HNN:=hide hnn
   clear hown hbel hnn
   go_wp2_with fail
   refine (PJoin_any _ HO.out.rd (by have:=HN.out;have:=HNN.out;omega) hcap (by have:=HT.out;omega)).mono ?_
   rw [HJ.out]
   unfold st
   rintro e w2 ⟨rfl,hbel⟩
   have HB2:=hide (below_step HB.out hbel)
   have HO2:=hide (HO.out.below hbel)
   clear hbel
   go_wp2_with fail
   go_ret2
   exact ⟨_,_,_,rfl,HO2.out,HB2.out⟩
  ·have d1:(j != s)=true:=by simpa using hjs
   have d2:(j==s)=false:=by simpa using hjs
   rw [d2]
   have d3:¬j=s:=hjs
   clear hjs
   go_enter Tryz.func53,Tryz.ntmps53
   go_wp2_with fail
   refine (names_any _ (by omega)).mono ?_
   rw [HC.out,HL.out]
   rintro e w1 ⟨A1,n1,c1,rfl,hown,hbel⟩
   have HO:=hide hown
   have HB:=hide hbel
   have hnn:=hown.len
   have hcap:=hown.cap
   have HNN:=hide hnn
   clear hown hbel hnn
   go_wp2_with fail
   refine (PJoin_any _ HO.out.rd (by have:=HN.out;have:=HNN.out;omega) hcap (by have:=HT.out;omega)).mono ?_
   rw [HJ.out]
   unfold st
   rintro e w2 ⟨rfl,hbel⟩
   have HB2:=hide (below_step HB.out hbel)
   clear hbel
   go_wp2_with fail
   go_ret2
   exact LRet.nil HB2.out

end Go.Proofs.YtnhegahpfacdgaaGreat

namespace Go.Proofs.YtnhegahpfacdgaaGreat
open Go.RowKit Plain

theorem EqualS_b {A B:Option Addr} {n m c d:Nat} {l k:List (List UInt8)} {W1 W2:Nat} {b:Bool} (h:(l==k)=b) (w:World) (ha:Rd st w W1 A n l) (hb:Rd st w W2 B m k) (hn:n≤140737488355328) :
  Calls Tryz.prog 54 #[.slice A n c,.slice B m d] w (BRt w b):=by
 have:=EqualS_any (c:=c) (d:=d) w ha hb hn;rw [h] at this;exact this

end Go.Proofs.YtnhegahpfacdgaaGreat

namespace Go.Proofs.YtnhegahpfacdgaaGreat
open Go.RowKit Plain

set_option maxHeartbeats 400000 in
theorem PBegins_b {A B:Option Addr} {n m c d:Nat} {l k:List (List UInt8)} {W1 W2:Nat} {b:Bool} (h:beginsS l k=b) (w:World) (ha:Rd st w W1 A n l) (hb:Rd st w W2 B m k) (hn:n≤1000000) (hmd:m≤d) :
  Calls Tryz.prog 29 #[.slice A n c,.slice B m d] w (BRt w b):=by
 have HA:=hide ha
 have HB:=hide hb
 have hl:=ha.len
 have hk:=hb.len
 by_cases hnm:n≤m
 ·have hd:decide ((n:Int)≤(m:Int))=true:=by simp;omega
  have hbe:(l==k.take n)=b:=by
   rw [←h]
   unfold beginsS
   have:decide (l.length≤k.length)=true:=by simp;omega
   rw [this,hl]
   rfl
  have HBE:=hide hbe
  clear ha hb h hl hk hbe
  have hnd:n≤d:=by omega
  go_enter Tryz.func29,Tryz.ntmps29
  go_wp2_with fail
  refine (EqualS_b HBE.out _ HA.out (HB.out.pre hnm) (by omega)).mono ?_
  rintro e w1 ⟨rfl,hbel⟩
  have HBL:=hide hbel
  clear hbel
  go_wp2_with fail
  go_ret
  exact BRt.of HBL.out rfl
 ·have hd:decide (n≤m)=false:=by simp;omega
  have hmn:m < n:=by omega
  have hbe:b=false:=by
   rw [←h]
   unfold beginsS
   have:decide (l.length≤k.length)=false:=by simp;omega
   rw [this]
   rfl
  have HBE:=hide hbe
  clear ha hb h hl hk hbe HA HB hnm
  go_enter Tryz.func29,Tryz.ntmps29
  go_wp2_with fail
  go_ret
  exact BRt.of (below_self w) HBE.out.symm

theorem name_head {s:List UInt8} (h:nameB s=true):headB s=false:=by
 cases s with
 | nil=>rfl
 | cons c r =>
  have:=nameB_noslash h c List.mem_cons_self
  simpa [headB] using this
theorem red_no {s:List UInt8} (h1:headB s=false):splitB s=false∧splitS s=[]:=by
 have hne:s≠[47]:=by rintro rfl;simp [headB] at h1
 have hne2:(s==[47])=false:=by simpa using hne
 refine ⟨by unfold splitB;rw [hne2,h1];rfl,by unfold splitS;rw [if_neg hne,h1];rfl⟩
theorem red_split {s:List UInt8} (h:¬24 < s.length) (hn:nameB s=false):redL s=splitS s∧redA s=splitB s∧redB s=splitB s:=by
 unfold redL redA redB
 rw [if_neg h,if_neg h,if_neg h]
 cases hh:headB s with
 | true=>exact ⟨rfl,rfl,rfl⟩
 | false=>obtain ⟨a,b⟩:=red_no hh;rw [a,b,hn];exact ⟨rfl,rfl,rfl⟩
theorem red_name {s:List UInt8} (h:¬24 < s.length) (hn:nameB s=true):redL s=[s]∧redA s=false∧redB s=true:=by
 unfold redL redA redB
 rw [if_neg h,if_neg h,if_neg h,name_head hn,hn]
 exact ⟨rfl,rfl,rfl⟩

set_option maxHeartbeats 400000 in
theorem PRed_any {s:List UInt8} (w:World) (hs:s.length≤100000):Calls Tryz.prog 28 #[st s] w (LRet2 w 9 (redL s) (redA s) (redB s)):=by
 unfold st
 by_cases h:24 < s.length
 ·rw [show redL s=[] from by simp [redL,h],show redA s=false from by simp [redA,h],show redB s=false from by simp [redB,h]]
  have hd:decide ((24:Int) < (s.length:Int))=true:=by simp;omega
  go_enter Tryz.func28,Tryz.ntmps28
  go_wp2_with fail
  go_ret3
  exact LRet2.nil (below_self w)
 have hd:decide ((24:Int) < (s.length:Int))=false:=by simp;omega
 cases hn:nameB s with
 | true =>
  obtain ⟨e1,e2,e3⟩:=red_name h hn
  rw [e1,e2,e3]
  have HN:=hide hn
  clear e1 e2 e3 hn h
  go_enter Tryz.func28,Tryz.ntmps28
  go_wp2_with fail
  refine (NRight_b HN.out _ (by omega)).mono ?_
  rintro e w1 ⟨rfl,hbel⟩
  have HB:=hide hbel
  clear hbel
  go_wp2_with fail
  go_ret3
  exact ⟨_,_,_,rfl,(Ow.lit w1 9 (f:=st) (cs:=[.string ⟨s.toArray⟩]) (l:=[s]) (n:=1) rfl rfl (by decide)).rebase HB.out.size,below_new HB.out _⟩
 | false =>
  obtain ⟨e1,e2,e3⟩:=red_split h hn
  rw [e1,e2,e3]
  obtain ⟨l,hl⟩:∃l,splitS s=l:=⟨_,rfl⟩
  obtain ⟨b,hb⟩:∃b,splitB s=b:=⟨_,rfl⟩
  rw [hl,hb]
  have HN:=hide hn
  have HL:=hide hl
  have HBB:=hide hb
  clear e1 e2 e3 hn h hl hb
  go_enter Tryz.func28,Tryz.ntmps28
  go_wp2_with fail
  refine (NRight_b HN.out _ (by omega)).mono ?_
  rintro e w1 ⟨rfl,hbel⟩
  have HB:=hide hbel
  clear hbel
  go_wp2_with fail
  refine (PSplit_any _ (by omega)).mono ?_
  rw [HL.out,HBB.out]
  rintro e w2 ⟨A2,n2,c2,rfl,hown,hbel⟩
  have HO:=hide (hown.rebase HB.out.size)
  have HB2:=hide (below_step HB.out hbel)
  clear hown hbel
  go_wp2_with fail
  go_ret3
  exact ⟨_,_,_,rfl,HO.out,HB2.out⟩

theorem PRed_of {s:List UInt8} {l:List (List UInt8)} {a b:Bool} (h1:redL s=l) (h2:redA s=a) (h3:redB s=b) (w:World) (hs:s.length≤100000):Calls Tryz.prog 28 #[st s] w (LRet2 w 9 l a b):=by
 have:=PRed_any w hs;rw [h1,h2,h3] at this;exact this

end Go.Proofs.YtnhegahpfacdgaaGreat

