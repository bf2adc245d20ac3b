import Derived.Test.YtggnbflbbfdohaaGreatSt19
import Derived.Test.YtggnbflbbfdohaaGreatSt18
import Derived.Test.YtggnbflbbfdohaaGreatRows
import Derived.Test.YtggnbflbbfdohaaGreatSt1
import Derived.IntWalk
import Derived.Laws.Cover3
import Derived.Test.YtggnbflbbfdohaaGreatSt15

namespace Go.Proofs.YtggnbflbbfdohaaGreat
open Go.RowKit Plain

theorem name_head {s:List UInt8} (h:nameB s=true):headB s=false:=by
 cases s with
 | nil=>rfl
 | cons c r =>
  have:=nameB_noslash h c List.mem_cons_self
  simpa [headB] using this
theorem red_no {s:List UInt8} (h1:headB s=false):splitB s=false∧splitS s=[]:=by
 have hne:s≠[47]:=by rintro rfl;simp [headB] at h1
 have hne2:(s==[47])=false:=by simpa using hne
 refine ⟨by unfold splitB;rw [hne2,h1];rfl,by unfold splitS;rw [if_neg hne,h1];rfl⟩
theorem red_split {s:List UInt8} (h:¬24 < s.length) (hn:nameB s=false):redL s=splitS s∧redA s=splitB s∧redB s=splitB s:=by
 unfold redL redA redB;rw [if_neg h,if_neg h,if_neg h]
 cases hh:headB s with
 | true=>exact ⟨rfl,rfl,rfl⟩
 | false=>obtain ⟨a,b⟩:=red_no hh;rw [a,b,hn];exact ⟨rfl,rfl,rfl⟩
theorem red_name {s:List UInt8} (h:¬24 < s.length) (hn:nameB s=true):redL s=[s]∧redA s=false∧redB s=true:=by
 unfold redL redA redB;rw [if_neg h,if_neg h,if_neg h,name_head hn,hn];exact ⟨rfl,rfl,rfl⟩

set_option maxHeartbeats 400000 in
theorem PRed_any {s:List UInt8} (w:World) (hs:s.length≤100000):Calls Tryz.prog 56 #[st s] w (LRet2 w 9 (redL s) (redA s) (redB s)):=by
 unfold st
 by_cases h:24 < s.length
 ·rw [show redL s=[] from by simp [redL,h],show redA s=false from by simp [redA,h],show redB s=false from by simp [redB,h]]
  have hd:decide ((24:Int) < (s.length:Int))=true:=by simp;omega
  go_enter Tryz.func56,Tryz.ntmps56
  go_wp2_with fail
  go_ret3
  exact LRet2.nil (below_self w)
 have hd:decide ((24:Int) < (s.length:Int))=false:=by simp;omega
 cases hn:nameB s with
 | true =>
  obtain ⟨e1,e2,e3⟩:=red_name h hn;rw [e1,e2,e3];have HN:=hide hn;clear e1 e2 e3 hn h
  go_enter Tryz.func56,Tryz.ntmps56
  go_wp2_with fail
  refine (NRight_b HN.out _ (by omega)).mono ?_
  rintro e w1 ⟨rfl,hbel⟩
  have HB:=hide hbel;clear hbel
  go_wp2_with fail
  go_ret3
  exact ⟨_,_,_,rfl,(Ow.lit w1 9 (f:=st) (cs:=[.string ⟨s.toArray⟩]) (l:=[s]) (n:=1) rfl rfl (by decide)).rebase HB.out.size,below_new HB.out _⟩
 | false =>
  obtain ⟨e1,e2,e3⟩:=red_split h hn;rw [e1,e2,e3];obtain ⟨l,hl⟩:∃l,splitS s=l:=⟨_,rfl⟩;obtain ⟨b,hb⟩:∃b,splitB s=b:=⟨_,rfl⟩;rw [hl,hb];have HN:=hide hn;have HL:=hide hl;have HBB:=hide hb;clear e1 e2 e3 hn h hl hb
  go_enter Tryz.func56,Tryz.ntmps56
  go_wp2_with fail
  refine (NRight_b HN.out _ (by omega)).mono ?_
  rintro e w1 ⟨rfl,hbel⟩
  have HB:=hide hbel;clear hbel
  go_wp2_with fail
  refine (PSplit_any _ (by omega)).mono ?_;rw [HL.out,HBB.out]
  rintro e w2 ⟨A2,n2,c2,rfl,hown,hbel⟩
  have HO:=hide (hown.rebase HB.out.size);have HB2:=hide (below_step HB.out hbel);clear hown hbel
  go_wp2_with fail
  go_ret3
  exact ⟨_,_,_,rfl,HO.out,HB2.out⟩

end Go.Proofs.YtggnbflbbfdohaaGreat

