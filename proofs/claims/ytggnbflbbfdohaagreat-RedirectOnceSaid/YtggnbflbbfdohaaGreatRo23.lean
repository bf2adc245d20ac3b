import Derived.Test.YtggnbflbbfdohaaGreatRo22

namespace Go.Proofs.YtggnbflbbfdohaaGreat
open Go.RowKit Plain

set_option maxHeartbeats 400000 in
theorem PBegins_b {A B:Option Addr} {n m c d:Nat} {l k:List (List UInt8)} {W1 W2:Nat} {b:Bool} (h:beginsS l k=b) (w:World) (ha:Rd st w W1 A n l) (hb:Rd st w W2 B m k) (hn:n≤1000000) (hmd:m≤d) :
  Calls Tryz.prog 57 #[.slice A n c,.slice B m d] w (BRt w b):=by
 have HA:=hide ha
 have HB:=hide hb
 have hl:=ha.len
 have hk:=hb.len
 by_cases hnm:n≤m
 ·have hd:decide ((n:Int)≤(m:Int))=true:=by simp;omega
  have hbe:(l==k.take n)=b:=by
   rw [←h]
   unfold beginsS
   have:decide (l.length≤k.length)=true:=by simp;omega
   rw [this,hl]
   rfl
  have HBE:=hide hbe
  clear ha hb h hl hk hbe
  have hnd:n≤d:=by omega
  go_enter Tryz.func57,Tryz.ntmps57
  go_wp2_with fail
  refine (EqualS_b HBE.out _ HA.out (HB.out.pre hnm) (by omega)).mono ?_
  rintro e w1 ⟨rfl,hbel⟩
  have HBL:=hide hbel
  clear hbel
  go_wp2_with fail
  go_ret
  exact BRt.of HBL.out rfl
 ·have hd:decide (n≤m)=false:=by simp;omega
  have hmn:m < n:=by omega
  have hbe:b=false:=by
   rw [←h]
   unfold beginsS
   have:decide (l.length≤k.length)=false:=by simp;omega
   rw [this]
   rfl
  have HBE:=hide hbe
  clear ha hb h hl hk hbe HA HB hnm
  go_enter Tryz.func57,Tryz.ntmps57
  go_wp2_with fail
  go_ret
  exact BRt.of (below_self w) HBE.out.symm

theorem name_head {s:List UInt8} (h:nameB s=true):headB s=false:=by
 cases s with
 | nil=>rfl
 | cons c r =>
  have:=nameB_noslash h c List.mem_cons_self
  simpa [headB] using this
theorem red_no {s:List UInt8} (h1:headB s=false):splitB s=false∧splitS s=[]:=by
 have hne:s≠[47]:=by rintro rfl;simp [headB] at h1
 have hne2:(s==[47])=false:=by simpa using hne
 refine ⟨by unfold splitB;rw [hne2,h1];rfl,by unfold splitS;rw [if_neg hne,h1];rfl⟩
theorem red_split {s:List UInt8} (h:¬24 < s.length) (hn:nameB s=false):redL s=splitS s∧redA s=splitB s∧redB s=splitB s:=by
 unfold redL redA redB
 rw [if_neg h,if_neg h,if_neg h]
 cases hh:headB s with
 | true=>exact ⟨rfl,rfl,rfl⟩
 | false=>obtain ⟨a,b⟩:=red_no hh;rw [a,b,hn];exact ⟨rfl,rfl,rfl⟩
theorem red_name {s:List UInt8} (h:¬24 < s.length) (hn:nameB s=true):redL s=[s]∧redA s=false∧redB s=true:=by
 unfold redL redA redB
 rw [if_neg h,if_neg h,if_neg h,name_head hn,hn]
 exact ⟨rfl,rfl,rfl⟩

set_option maxHeartbeats 400000 in
theorem PRed_any {s:List UInt8} (w:World) (hs:s.length≤100000):Calls Tryz.prog 56 #[st s] w (LRet2 w 9 (redL s) (redA s) (redB s)):=by
 unfold st
 by_cases h:24 < s.length
 ·rw [show redL s=[] from by simp [redL,h],show redA s=false from by simp [redA,h],show redB s=false from by simp [redB,h]]
  have hd:decide ((24:Int) < (s.length:Int))=true:=by simp;omega
  go_enter Tryz.func56,Tryz.ntmps56
  go_wp2_with fail
  go_ret3
  exact LRet2.nil (below_self w)
 have hd:decide ((24:Int) < (s.length:Int))=false:=by simp;omega
 cases hn:nameB s with
 | true =>
  obtain ⟨e1,e2,e3⟩:=red_name h hn
  rw [e1,e2,e3]
  have HN:=hide hn
  clear e1 e2 e3 hn h
  go_enter Tryz.func56,Tryz.ntmps56
  go_wp2_with fail
  refine (NRight_b HN.out _ (by omega)).mono ?_
  rintro e w1 ⟨rfl,hbel⟩
  have HB:=hide hbel
  clear hbel
  go_wp2_with fail
  go_ret3
  exact ⟨_,_,_,rfl,(Ow.lit w1 9 (f:=st) (cs:=[.string ⟨s.toArray⟩]) (l:=[s]) (n:=1) rfl rfl (by decide)).rebase HB.out.size,below_new HB.out _⟩
 | false =>
  obtain ⟨e1,e2,e3⟩:=red_split h hn
  rw [e1,e2,e3]
  obtain ⟨l,hl⟩:∃l,splitS s=l:=⟨_,rfl⟩
  obtain ⟨b,hb⟩:∃b,splitB s=b:=⟨_,rfl⟩
  rw [hl,hb]
  have HN:=hide hn
  have HL:=hide hl
  have HBB:=hide hb
  clear e1 e2 e3 hn h hl hb
  go_enter Tryz.func56,Tryz.ntmps56
  go_wp2_with fail
  refine (NRight_b HN.out _ (by omega)).mono ?_
  rintro e w1 ⟨rfl,hbel⟩
  have HB:=hide hbel
  clear hbel
  go_wp2_with fail
  refine (PSplit_any _ (by omega)).mono ?_
  rw [HL.out,HBB.out]
  rintro e w2 ⟨A2,n2,c2,rfl,hown,hbel⟩
  have HO:=hide (hown.rebase HB.out.size)
  have HB2:=hide (below_step HB.out hbel)
  clear hown hbel
  go_wp2_with fail
  go_ret3
  exact ⟨_,_,_,rfl,HO.out,HB2.out⟩

theorem PRed_of {s:List UInt8} {l:List (List UInt8)} {a b:Bool} (h1:redL s=l) (h2:redA s=a) (h3:redB s=b) (w:World) (hs:s.length≤100000):Calls Tryz.prog 56 #[st s] w (LRet2 w 9 l a b):=by
 have:=PRed_any w hs;rw [h1,h2,h3] at this;exact this

end Go.Proofs.YtggnbflbbfdohaaGreat

