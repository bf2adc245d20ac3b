import Derived.Test.YtpndfahgflgocaaGreatDoorLn32
import Derived.Test.YtpndfahgflgocaaGreatDoorLn17
import Derived.Test.YtpndfahgflgocaaGreatDoorLn27
import Derived.Test.YtpndfahgflgocaaGreatDoorLn11
import Derived.Test.YtpndfahgflgocaaGreatDoorLn18

namespace Go.Proofs.YtpndfahgflgocaaGreatDoor
open Go.RowKit Go.Shelf Plain

def setO (o:OriV) (j:Nat) (v:Int):OriV:=match j with
  | 0=>(v,o.2.1,o.2.2)|1=>(o.1,v,o.2.2)|_=>(o.1,o.2.1,v)
theorem set_ori {o:OriV} {j:Nat} {v:Int} (h:j < 3):(oriC o).set j (.int .i64 v)=oriC (setO o j v):=by
  obtain rfl|rfl|rfl:j=0∨j=1∨j=2:=by omega
  all_goals rfl
theorem num_set {o:OriV} {j i:Nat} {v:Int} (h:j < 3) (hi:i < 3):numO (setO o j v) i=if i=j then v else numO o i:=by
  obtain rfl|rfl|rfl:j=0∨j=1∨j=2:=by omega
  all_goals
    obtain rfl|rfl|rfl:i=0∨i=1∨i=2:=by omega
    all_goals rfl
def restO (s : List UInt8) : Nat → List UInt8
  | 0=>s
  | j+1=>(restO s j).drop (dgO j)
def partO (s:List UInt8) (j:Nat):List UInt8:=(restO s j).take (dgO j)
theorem rest_le (s : List UInt8) : ∀ j, (restO s j).length ≤ s.length
  | 0=>Nat.le_refl _
  | j+1=>by
    have:=rest_le s j
    rw [restO,List.length_drop]
    omega
def ToldO (s:List UInt8) (o:OriV) (j:Nat):Prop:=∀i,i < j→i < 3→(partO s i).all isH=true→numO o i=numH (partO s i)
theorem told_set {s:List UInt8} {o:OriV} {j:Nat} {v:Int} (h:ToldO s o j) (hj:j < 3) (hv:(partO s j).all isH=true→v=numH (partO s j)):ToldO s (setO o j v) (j+1):=fun i hi h3 ha=>by
  rw [num_set hj h3]
  by_cases e:i=j
  · subst e
    rw [if_pos rfl]
    exact hv ha
  · rw [if_neg e]
    exact h i (by omega) h3 ha
theorem told_end {s:List UInt8} {o:OriV} (h:ToldO s o 3):(mayH o=true∧nameH o=s)↔isN s=true:=by
  constructor
  · rintro ⟨h1,h2⟩
    unfold nameH at h2
    rw [if_pos h1] at h2
    exact (name_iff.1 ⟨h1,h2⟩).1
  · intro hn
    have hq:=hn
    unfold isN at hq
    rw [Bool.and_eq_true,Bool.and_eq_true] at hq
    obtain ⟨⟨h1,h2⟩,-⟩:=hq
    have h1:=of_decide_eq_true h1
    have sub:∀l:List UInt8,(∀x∈l,x∈s)→l.all isH=true:=fun l hl=>List.all_eq_true.2 fun x hx=>List.all_eq_true.1 h2 x (hl x hx)
    have p0:partO s 0=s.take 1:=rfl
    have p1:partO s 1=(s.drop 1).take 4:=rfl
    have p2:partO s 2=s.drop 5:=by
      show ((s.drop 1).drop 4).take 7=s.drop 5
      rw [List.drop_drop,List.take_of_length_le (by rw [List.length_drop];omega)]
    have e0:=h 0 (by omega) (by omega) (by rw [p0];exact sub _ fun x hx=>List.mem_of_mem_take hx)
    have e1:=h 1 (by omega) (by omega) (by rw [p1];exact sub _ fun x hx=>List.mem_of_mem_drop (List.mem_of_mem_take hx))
    have e2:=h 2 (by omega) (by omega) (by rw [p2];exact sub _ fun x hx=>List.mem_of_mem_drop hx)
    rw [p0] at e0
    rw [p1] at e1
    rw [p2] at e2
    have eo:oriH s=o:=by
      obtain ⟨a,b,c⟩:=o
      simp only [numO] at e0 e1 e2
      unfold oriH
      rw [e0,e1,e2]
    obtain ⟨h3,h4⟩:=name_iff.2 ⟨hn,eo⟩
    refine ⟨h3,?_⟩
    unfold nameH
    rw [if_pos h3]
    exact h4
theorem told_par {s:List UInt8} {o:OriV} (h:mayH o=true∧nameH o=s):parseH s=o∧isN s=true:=by
  obtain ⟨h1,h2⟩:=h
  unfold nameH at h2
  rw [if_pos h1] at h2
  obtain ⟨h3,h4⟩:=name_iff.1 ⟨h1,h2⟩
  unfold parseH
  rw [if_pos h3]
  exact ⟨h4,h3⟩
theorem cut_listH (l:List UInt8) (i j:Nat):(⟨l.toArray⟩:ByteArray).extract i j=⟨((l.drop i).take (j - i)).toArray⟩:=by
  apply ByteArray.ext
  rw [ByteArray.data_extract]
  apply Array.ext'
  show (l.toArray.extract i j).toList=(l.drop i).take (j - i)
  rw [Array.toList_extract,List.extract_eq_take_drop]
theorem res_ctH {fn:Func} {tmps:Array Value} {w:World} {s g t s1 T k:Nat} {cs:List Value} {v:Value} (hr:fn.results=#[.cell s T,.tmp s1]) (ht:tmps.getD s undef=.pointer (some ⟨g,0,none⟩)) (ht1:tmps.getD s1 undef=v) (hag:∀w,(isAgg T).run Tryz.prog w=.ok true w) (hsz:∀w,(sizeOf T).run Tryz.prog w=.ok k w) (h:RowL w g t cs) (hk:cs.length=k):(results fn tmps).run Tryz.prog w=.ok (.tuple #[.agg cs.toArray,v]) w:=by
  have hl:=run_loadRow (P:=Tryz.prog) h hk
  have ht':tmps[s]?.getD undef=.pointer (some ⟨g,0,none⟩):=by simpa using ht
  have ht1':tmps[s1]?.getD undef=v:=by simpa using ht1
  simp [results,hr,ht',ht1',hag,hsz,hl,go_sem]
set_option maxRecDepth 100000 in
set_option maxHeartbeats 8000000 in
theorem HParse_any {s:List UInt8} (hs:s.length≤1000) (w:World) (hw:HanW w):Calls Tryz.prog 47 #[.string ⟨s.toArray⟩] w (fun e w'=>e=.returned (.tuple #[.agg (oriC (parseH s)).toArray,.bool (isN s)])∧Below w.heap.size w w'):=by
  have HLW:=hide hw.lows
  have HW0:=hide hw
  have HS:=hide hs
  have r2:=RowL.new w 47 [.int .i64 0,.int .i64 0,.int .i64 0]
  have hb1:=below_new (below_self w) (.cells #[.int .i64 0,.int .i64 0,.int .i64 0] 47)
  have hz1:(w.alloc (.cells #[.int .i64 0,.int .i64 0,.int .i64 0] 47)).heap.size=w.heap.size+1:=by simp
  obtain ⟨w1,hw1⟩:∃w1,w.alloc (.cells #[.int .i64 0,.int .i64 0,.int .i64 0] 47)=w1:=⟨_,rfl⟩
  have r2':RowL w1 w.heap.size 47 [.int .i64 0,.int .i64 0,.int .i64 0]:=by rw [←hw1];exact r2
  rw [hw1] at hb1 hz1
  have r4:=RowL.new w1 105 [.int .i64 0,.int .i64 0,.int .i64 0]
  have hb2:=below_new (below_self w1) (.cells #[.int .i64 0,.int .i64 0,.int .i64 0] 105)
  have R2:=hide (r2'.on hb2)
  have R4:=hide (show RowL (w1.alloc (.cells #[.int .i64 0,.int .i64 0,.int .i64 0] 105)) w1.heap.size 105 [.int .i64 0,.int .i64 0,.int .i64 0] from r4)
  have hz2:(w1.alloc (.cells #[.int .i64 0,.int .i64 0,.int .i64 0] 105)).heap.size=w1.heap.size+1:=by simp
  have HB2:=hide (hb1.trans (hb2.mono (by omega)))
  have HW2:=hide ((hw.below hb1).below hb2)
  clear r2 r2' r4 hb1 hb2 hw hs
  go_enter Tryz.func47,Tryz.ntmps47
  go_upto_region 2 with fail
  rw [hz1] at R4 hz2
  obtain ⟨g4,hg4⟩:∃g4,w.heap.size+1=g4:=⟨_,rfl⟩
  rw [hg4] at R4 hz2 ⊢
  have hg4':w.heap.size+1≤g4:=by omega
  generalize w1.alloc (.cells #[.int .i64 0,.int .i64 0,.int .i64 0] 105)=w2 at *
  clear hw1 hg4 hz1
  have qp0:w2.cell? ⟨0,0,none⟩=some (.int .i64 1):=HW2.out.1 0 _ rfl
  have qp1:w2.cell? ⟨0,1,none⟩=some (.int .i64 1):=HW2.out.1 1 _ rfl
  have qp2:w2.cell? ⟨0,2,none⟩=some (.int .i64 15):=HW2.out.1 2 _ rfl
  have qp3:w2.cell? ⟨0,3,none⟩=some (.int .i64 4):=HW2.out.1 3 _ rfl
  have qp4:w2.cell? ⟨0,4,none⟩=some (.int .i64 0):=HW2.out.1 4 _ rfl
  have qp5:w2.cell? ⟨0,5,none⟩=some (.int .i64 65535):=HW2.out.1 5 _ rfl
  have qp6:w2.cell? ⟨0,6,none⟩=some (.int .i64 7):=HW2.out.1 6 _ rfl
  have qp7:w2.cell? ⟨0,7,none⟩=some (.int .i64 0):=HW2.out.1 7 _ rfl
  have qp8:w2.cell? ⟨0,8,none⟩=some (.int .i64 268435455):=HW2.out.1 8 _ rfl
  go_wp2_with fail
  go_loopw [5,14] (fun v5 v14 wr=>∃(j:Nat) (o:OriV) (r:List UInt8),j≤3∧v14=.int .i64 j∧v5=.string ⟨r.toArray⟩∧Hid (r=restO s j)∧Hid (ToldO s o j)∧RowL wr g4 105 (oriC o)∧RowL wr w.heap.size 47 [.int .i64 0,.int .i64 0,.int .i64 0]∧Below w.heap.size w wr∧g4 < wr.heap.size) (fun _ v14 _=>3 - (intOf v14).toNat)
  case atStart=>exact ⟨0,(0,0,0),s,by omega,rfl,rfl,hide rfl,hide (fun i hi=>absurd hi (by omega)),R4.out,R2.out,HB2.out,by omega⟩
  case round =>
    obtain ⟨j,o,r,hj,rfl,rfl,HR,HTO,hr4,hr2,hbr,hg4⟩:=hrel
    have R4r:=hide hr4
    have R2r:=hide hr2
    have HBR:=hide hbr
    have hbs:=hbr.size
    have HHW:=hide (HW0.out.low hbr HLW.out)
    clear hr4 hr2 hbr
    by_cases hlt:j < 3
    · have hix:∀W,(Instr.index 108 (.agg #[.int .i64 1,.int .i64 1,.int .i64 15,.int .i64 4,.int .i64 0,.int .i64 65535,.int .i64 7,.int .i64 0,.int .i64 268435455]) (.int .i64 (j:Int))).run Tryz.prog W=.ok (.agg #[.int .i64 (dgO j),.int .i64 (lsO j),.int .i64 (gsO j)]) W:=fun W=>prt_index hlt W
      obtain ⟨n,hn⟩:∃n,r.length=n:=⟨_,rfl⟩
      have hsz:(⟨r.toArray⟩:ByteArray).size=n:=by rw [←hn];simp [ByteArray.size]
      have hrl:n≤1000:=by rw [←hn,HR.out];exact Nat.le_trans (rest_le s j) HS.out
      obtain ⟨D,hD⟩:∃D,dgO j=D:=⟨_,rfl⟩
      have hD7 : D ≤ 7 := by rw [← hD]; obtain rfl | rfl | rfl : j = 0 ∨ j = 1 ∨ j = 2 := by omega
                             all_goals decide
      have HPT:=hide (show partO s j=r.take D from by rw [HR.out,←hD];rfl)
      have HRS:=hide (show restO s (j+1)=r.drop D from by rw [HR.out,←hD];rfl)
      obtain ⟨L,hL⟩:∃L,lsO j=L:=⟨_,rfl⟩
      obtain ⟨G,hG⟩:∃G,gsO j=G:=⟨_,rfl⟩
      rw [hD,hL,hG] at hix
      have hj3:(j:Int) < 3:=by omega
      obtain ⟨e,he⟩:∃e,min D n=e:=⟨_,rfl⟩
      have hmin:min (D:Int) (n:Int)=(e:Int):=by omega
      have hct:=cut_listH r 0 e
      have hcd:=cut_listH r e n
      rw [List.drop_zero,Nat.sub_zero] at hct
      rw [List.take_of_length_le (by rw [List.length_drop];omega)] at hcd
      have HTE:=hide (show r.take e=r.take D from by
        rcases Nat.le_total D n with h|h
        · rw [←he,Nat.min_eq_left h]
        · rw [←he,Nat.min_eq_right h,List.take_of_length_le (by omega),List.take_of_length_le (by omega)])
      have HDE:=hide (show r.drop e=r.drop D from by
        rcases Nat.le_total D n with h|h
        · rw [←he,Nat.min_eq_left h]
        · rw [←he,Nat.min_eq_right h,List.drop_of_length_le (by omega),List.drop_of_length_le (by omega)])
      have hel:e≤n:=by omega
      have heD:e≤7:=by omega
      clear hD hL hG he hn
      go_upto_region 7 with (first|(refine wpList_storeW rfl 107 (.tmp 7) (.tmp 17) rfl 3 prt_size (wr.heap.size) 107 rfl [.int .i64 0,.int .i64 0,.int .i64 0] [.int .i64 D,.int .i64 L,.int .i64 G] rfl (RowL.new wr 107 [.int .i64 0,.int .i64 0,.int .i64 0]) rfl rfl (by simp [Value.oneCell']) ?_;intro w5 hr5 hg5 hs5;have hb5:=below_stored' hg5;have hz5:=hb5.size;have HBR5:=hide (HBR.out.trans (hb5.mono (by omega)));have R45:=hide (R4r.out.on hb5);have R25:=hide (R2r.out.on hb5);have HHW5:=hide (HHW.out.below hb5);have qd:w5.cell? ⟨wr.heap.size,0,none⟩=some (.int .i64 D):=hr5.cell 0;clear hr5 hg5 hs5 hb5 R4r R2r))
      have hei:(e:Int)≤(n:Int):=by omega
      have HL5:=hide (show (r.take e).length≤12 from by rw [List.length_take];omega)
      go_wp2_with (first|(go_at_call 64;refine (HGet_any HL5.out w5 HHW5.out.2.2).mono ?_;rintro e6 w6 ⟨v,hv0,hv1,hvd,rfl,hbel⟩;have hz6:=hbel.size;have HVD:=hide hvd;have HBR6:=hide (HBR5.out.trans (hbel.mono (by omega)));have R46:=hide (R45.out.on hbel);have R26:=hide (R25.out.on hbel);clear hvd hbel R45 R25 qd)|(refine wpList_storeV rfl 3 (.tmp 28) (.tmp 27) rfl Tryz.sizeOf3 g4 j 105 rfl (.int .i64 v) rfl rfl rfl (oriC o) R46.out (by show j < 3;omega) ?_;intro w7 hr7 hg7 hs7;rw [set_ori hlt] at hr7;have R47:=hide hr7;have HBR7:=hide (HBR6.out.grown hg7 (by omega) (pu4 (by omega)));have R27:=hide (R26.out.grown hg7 (fun h=>by have:=Option.some.inj h;omega));have hz7:=hg7.size;clear hr7 hg7 hs7 R46 R26))
      have HTO2:=hide (told_set HTO.out hlt (v:=v) (by rw [HPT.out,←HTE.out];exact HVD.out))
      have HR2:=hide (show r.drop e=restO s (j+1) from by rw [HRS.out,HDE.out])
      go_roundw
      case rel=>exact ⟨j+1,setO o j v,r.drop e,by omega,by go_num,rfl,HR2,HTO2,R47.out,R27.out,HBR7.out,by omega⟩
      case measure=>simp [intOf];omega
    · obtain rfl:j=3:=by omega
      have hj3:¬((3:Int) < 3):=by omega
      have q40:wr.cell? ⟨g4,0,none⟩=some (.int .i64 o.1):=R4r.out.cell 0
      have q41:wr.cell? ⟨g4,1,none⟩=some (.int .i64 o.2.1):=R4r.out.cell 1
      have q42:wr.cell? ⟨g4,2,none⟩=some (.int .i64 o.2.2):=R4r.out.cell 2
      have HTE:=hide (told_end HTO.out)
      go_upto_region 11 with (refine wpList_storeW rfl 47 (.tmp 9) (.tmp 39) rfl 3 ori_size (wr.heap.size) 47 rfl [.int .i64 0,.int .i64 0,.int .i64 0] [.int .i64 o.1,.int .i64 o.2.1,.int .i64 o.2.2] rfl (RowL.new wr 47 [.int .i64 0,.int .i64 0,.int .i64 0]) rfl rfl (by simp [Value.oneCell']) ?_;intro w8 hr8 hg8 hs8;have hb8:=below_stored' hg8;have hz8:=hb8.size;have R98:=hide hr8;have hlt9:=hr8.lt;have HBR8:=hide (HBR.out.trans (hb8.mono (by omega)));have R28:=hide (R2r.out.on hb8);have HHW8:=hide (HHW.out.below hb8);clear hr8 hg8 hs8 hb8 q40 q41 q42)
      go_upto_region 12 with (first|(refine wpList_loadW rfl 47 (.tmp 9) rfl 3 ori_agg ori_size (wr.heap.size) 47 rfl [.int .i64 o.1,.int .i64 o.2.1,.int .i64 o.2.2] R98.out rfl ?_)|(go_at_call 65;refine (HName_any o w8 HHW8.out).mono ?_;rintro e9 w9 ⟨rfl,hbel⟩;have hz9:=hbel.size;have R99:=hide (R98.out.on hbel);have R29:=hide (R28.out.on hbel);have HBR9:=hide (HBR8.out.trans (hbel.mono (by omega)));clear hbel R98 R28))
      obtain ⟨m,hm⟩:∃m,mayH o=m:=⟨_,rfl⟩
      obtain ⟨t,ht⟩:∃t,nameH o=t:=⟨_,rfl⟩
      rw [hm,ht] at HTE ⊢
      have HMT:=hide (And.intro hm ht)
      clear hm ht
      cases m with
      | false =>
        have HNO:=hide (show ¬(false=true∧t=s) from fun h=>by cases h.1)
        have HPZ:=hide (show parseH s=(0,0,0)∧isN s=false from by
          have hf:isN s=false:=by
            cases hq:isN s with
            | false=>rfl
            | true=>exact absurd (HTE.out.2 hq) HNO.out
          unfold parseH
          rw [hf]
          exact ⟨rfl,rfl⟩)
        go_upto_region 13 with fail
        go_wp2_with (first|(refine wpList_storeW rfl 47 (.tmp 2) (.tmp 52) rfl 3 ori_size (w.heap.size) 47 rfl [.int .i64 0,.int .i64 0,.int .i64 0] [.int .i64 0,.int .i64 0,.int .i64 0] rfl R29.out rfl rfl (by simp [Value.oneCell']) ?_;intro wz hrz hgz hsz2;have R2z:=hide hrz;have HBZ:=hide (HBR9.out.grown hgz (by omega) (pu4 (by omega)));clear hrz hgz hsz2))
        exact bodyPost_ret (res_ctH Tryz.results47 rfl rfl ori_agg ori_size R2z.out rfl) rfl ⟨by rw [HPZ.out.1,HPZ.out.2];rfl,HBZ.out⟩
      | true =>
        by_cases hts:t=s
        · have hq:=HTE.out.1 ⟨rfl,hts⟩
          have HPO:=hide (told_par (o:=o) (s:=s) ⟨HMT.out.1,HMT.out.2.trans hts⟩)
          have hb1:(t==s)=true:=by simpa using hts
          have hb2:(t != s)=false:=by simpa using hts
          clear hq hts
          go_upto_region 14 with fail
          go_wp2_with (first|(refine wpList_loadW rfl 47 (.tmp 9) rfl 3 ori_agg ori_size (wr.heap.size) 47 rfl [.int .i64 o.1,.int .i64 o.2.1,.int .i64 o.2.2] R99.out rfl ?_)|(refine wpList_storeW rfl 47 (.tmp 2) (.tmp 53) rfl 3 ori_size (w.heap.size) 47 rfl [.int .i64 0,.int .i64 0,.int .i64 0] [.int .i64 o.1,.int .i64 o.2.1,.int .i64 o.2.2] rfl R29.out rfl rfl (by simp [Value.oneCell']) ?_;intro wz hrz hgz hsz2;have R2z:=hide hrz;have HBZ:=hide (HBR9.out.grown hgz (by omega) (pu4 (by omega)));clear hrz hgz hsz2))
          exact bodyPost_ret (res_ctH Tryz.results47 rfl rfl ori_agg ori_size R2z.out rfl) rfl ⟨by rw [HPO.out.1,HPO.out.2];rfl,HBZ.out⟩
        · have HNO:=hide (show ¬(true=true∧t=s) from fun h=>hts h.2)
          have hb1:(t==s)=false:=by simpa using hts
          have hb2:(t != s)=true:=by simpa using hts
          clear hts
          have HPZ:=hide (show parseH s=(0,0,0)∧isN s=false from by
            have hf:isN s=false:=by
              cases hq:isN s with
              | false=>rfl
              | true=>exact absurd (HTE.out.2 hq) HNO.out
            unfold parseH
            rw [hf]
            exact ⟨rfl,rfl⟩)
          go_upto_region 13 with fail
          go_wp2_with (first|(refine wpList_storeW rfl 47 (.tmp 2) (.tmp 52) rfl 3 ori_size (w.heap.size) 47 rfl [.int .i64 0,.int .i64 0,.int .i64 0] [.int .i64 0,.int .i64 0,.int .i64 0] rfl R29.out rfl rfl (by simp [Value.oneCell']) ?_;intro wz hrz hgz hsz2;have R2z:=hide hrz;have HBZ:=hide (HBR9.out.grown hgz (by omega) (pu4 (by omega)));clear hrz hgz hsz2))
          exact bodyPost_ret (res_ctH Tryz.results47 rfl rfl ori_agg ori_size R2z.out rfl) rfl ⟨by rw [HPZ.out.1,HPZ.out.2];rfl,HBZ.out⟩
end Go.Proofs.YtpndfahgflgocaaGreatDoor

namespace Go.Proofs.YtpndfahgflgocaaGreatDoor
open Go.RowKit Go.Shelf Plain

theorem eq_ori (a b:OriV) {r:Bool} (h:decide (a=b)=r) (W:World):(binOp .eql 47 (.agg #[.int .i64 a.1,.int .i64 a.2.1,.int .i64 a.2.2]) (.agg #[.int .i64 b.1,.int .i64 b.2.1,.int .i64 b.2.2])).run Tryz.prog W=.ok (.bool r) W:=by
 subst h
 obtain ⟨a1,a2,a3⟩:=a
 obtain ⟨b1,b2,b3⟩:=b
 simp only [Prod.mk.injEq]
 by_cases h1:a1=b1
 rotate_left
 ·simp [go_sem,h1]
 by_cases h2:a2=b2
 rotate_left
 ·simp [go_sem,h1,h2]
 by_cases h3:a3=b3
 ·simp [go_sem,h1,h2,h3]
 ·simp [go_sem,h1,h2,h3]
set_option maxHeartbeats 1600000 in
theorem HSame_any {a b:OriV} {r:Bool} (h:decide (a=b)=r) (w:World):Calls Tryz.prog 67 #[.agg (oriC a).toArray,.agg (oriC b).toArray] w (BoolB w r):=by
 obtain ⟨W1,hW1⟩:∃W1,(w.alloc (.cells (oriC a).toArray 47)).alloc (.cells (oriC b).toArray 47)=W1:=⟨_,rfl⟩
 obtain ⟨r0,r1,hb1,hs1⟩:=rowA2 w _ _ _ _ hW1
 have hW1':(w.alloc (.cells #[.int .i64 a.1,.int .i64 a.2.1,.int .i64 a.2.2] 47)).alloc (.cells #[.int .i64 b.1,.int .i64 b.2.1,.int .i64 b.2.2] 47)=W1:=hW1
 have R2:=hide r0
 have R3:=hide r1
 have HB:=hide hb1
 have heq:=fun W=>eq_ori a b h W
 unfold oriC
 clear hW1 r0 r1 hb1 hs1 h
 go_enter Tryz.func67,Tryz.ntmps67
 go_wp2_with (first|(refine wpList_loadW rfl 47 (.tmp 2) rfl 3 ori_agg ori_size (w.heap.size) 47 rfl [.int .i64 a.1,.int .i64 a.2.1,.int .i64 a.2.2] R2.out rfl ?_)|(refine wpList_loadW rfl 47 (.tmp 3) rfl 3 ori_agg ori_size (w.heap.size+1) 47 rfl [.int .i64 b.1,.int .i64 b.2.1,.int .i64 b.2.2] R3.out rfl ?_))
 go_ret
 exact BoolB.of HB.out
theorem buF_few:FewU upB:=by
 refine ⟨by decide,fun x hx=>?_⟩
 have hd:PlainN ndD:=⟨fun i e hi he=>absurd hi (by simp [ndD,nod0]),by decide,by decide,by decide,by decide,by decide,fun e he=>by simp [ndD,nod0] at he⟩
 simp only [upB,List.mem_cons,List.not_mem_nil,or_false] at hx
 rcases hx with rfl|rfl|rfl|rfl|rfl
 ·exact hd
 ·exact hd
 ·exact hd
 ·exact plain0
 ·exact plain0
theorem HParse_e {s:List UInt8} {o:OriV} {b:Bool} (hs:s.length≤1000) (h:parseH s=o∧isN s=b) (w:World) (hw:HanW w):Calls Tryz.prog 47 #[.string ⟨s.toArray⟩] w (fun e w'=>e=.returned (.tuple #[.agg (oriC o).toArray,.bool b])∧Below w.heap.size w w'):=by
 obtain ⟨rfl,rfl⟩:=h
 exact HParse_any hs w hw
theorem HFind_e {g:GeoQ} {AU AL:Option Addr} {nU cU nL cL:Nat} {up:List NodV} {ls:List (List NodV)} {o:OriV} {x:NodV} {b:Bool} (hx:handF ls o=(x,b)) (w:World) (hu:RdE nodEn w (Under w.heap.size) AU nU up) (h:RdE layEn w (Under w.heap.size) AL nL ls) (hF:FewL ls) (hup:FewU up):Calls Tryz.prog 66 #[.agg (stkC g (.slice AU nU cU) (.slice AL nL cL)).toArray,.agg (oriC o).toArray] w (fun e w'=>∃A n c C m d,e=.returned (.tuple #[.agg (nodC x (.slice A n c) (.slice C m d)).toArray,.bool b])∧RdE Enc.byte w' (Under w'.heap.size) A n x.data∧RdE entEn w' (Under w'.heap.size) C m x.ents∧Below w.heap.size w w'):=by
 have h1:=HFindE_any (o:=o) w hu h (Nat.le_refl _) hF hup (g:=g) (cU:=cU) (cL:=cL)
 rw [hx] at h1
 refine h1.mono ?_
 rintro e w' ⟨A,n,c,C,m,d,h1,h2,h3,h4⟩
 exact ⟨A,n,c,C,m,d,h1,h2.mono (fun _ _=>rfl) (fun _ h=>h.2),h3.mono (fun _ _=>rfl) (fun _ h=>h.2),h4⟩
end Go.Proofs.YtpndfahgflgocaaGreatDoor

namespace Go.Proofs.YtpndfahgflgocaaGreatDoor
open Go.RowKit Go.Shelf Plain

def RchR (w:World) (lo hi:Nat) (A:Option Addr) (n:Nat) (rs:List Bool):Prop:=(rs.length=n∧(0 < n→∃b o,A=some ⟨b,o,none⟩∧lo≤b∧b < hi∧∀i x,rs[i]?=some x→w.cell? ⟨b,o+i,none⟩=some (.bool x)))∧hi≤w.heap.size
theorem rch_grown {w w':World} {lo hi n g:Nat} {A:Option Addr} {rs:List Bool} (h:RchR w lo hi A n rs) (hg:w.grownBy w' (some g)) (hne:g < lo∨hi≤g):RchR w' lo hi A n rs:=⟨⟨h.1.1,fun hn=>by
 obtain ⟨b,o,e,h1,h2,hc⟩:=h.1.2 hn
 exact ⟨b,o,e,h1,h2,fun i x hx=>(cell_same (hg.block b (Nat.lt_of_lt_of_le h2 h.2) (pu5 (by omega)))).trans (hc i x hx)⟩⟩,Nat.le_trans h.2 hg.size⟩
theorem rch_rd {w:World} {lo hi n:Nat} {A:Option Addr} {rs:List Bool} (h:RchR w lo hi A n rs):Rd Value.bool w w.heap.size A n rs:=⟨h.1.1,fun hn=>by
 obtain ⟨b,o,e,h1,h2,hc⟩:=h.1.2 hn
 exact ⟨b,o,e,Nat.lt_of_lt_of_le h2 h.2,hc⟩⟩
def ReachO (w:World) (rs:List Bool) (e:Ending) (w':World):Prop:=∃A n c lo hi,e=.returned (.slice A n c)∧w.heap.size≤lo∧RchR w' lo hi A n rs∧Below w.heap.size w w'
theorem lit_one (W:World):(Instr.buildSlice 71 1 #[(0,.int .i64 1)]).run Tryz.prog W=.ok (.slice (some ⟨W.heap.size,0,none⟩) 1 1) (W.alloc (.cells #[.int .i64 1] 3)):=by
 obtain ⟨it,hi,hz,hsz,-⟩:=info_parts (show (Tryz.prog.info? 3).map (fun i=>(i.zero,i.size,i.bytes))=some (some (.int .i64 0),1,8) from by kernel_rfl)
 refine run_buildSlice W _ 3 1 _ _ it (.int .i64 0) Tryz.underlying71 hi hz (by omega) (by omega) ?_
 rw [hsz]
 have:=Great.fill_whole (s:=1) (by omega) [.int .i64 1] ((Array.range (1*1)).map ((Value.int .i64 0).cells[· % (Value.int .i64 0).cells.size]!)) (by intro v hv;rw [List.mem_singleton] at hv;subst hv;simp [Value.cells]) (by simp)
 simpa [Value.cells] using this
theorem one_row {w:World} {g:Nat} (h:RowL w g 3 [.int .i64 1]):RdE Enc.int w (Under w.heap.size) (some ⟨g,0,none⟩) 1 [1]:=by
 refine ⟨rfl,fun _=>⟨g,0,rfl,h.lt,fun i x hx=>⟨[.int .i64 x],rfl,fun j v hv=>?_⟩⟩⟩
 have hi:i=0:=by have:=(List.getElem?_eq_some_iff.1 hx).1;simpa using this
 subst hi
 obtain rfl:1=x:=by simpa using hx
 have hj:j=0:=by have:=(List.getElem?_eq_some_iff.1 hv).1;simpa using this
 subst hj
 obtain rfl:Value.int .i64 1=v:=by simpa using hv
 exact h.cell 0
theorem nod_cells {w:World} {D:Nat→Prop} {A:Option Addr} {n i:Nat} {l:List NodV} {x:NodV} (h:RdE nodEn w D A n l) (hx:l[i]?=some x):∃b o A0 n0 k0 C0 m0 d0,A=some ⟨b,o,none⟩∧D b∧∀k v,(nodC x (.slice A0 n0 k0) (.slice C0 m0 d0))[k]?=some v→w.cell? ⟨b,o+i*13+k,none⟩=some v:=by
 have hj:i < l.length:=(List.getElem?_eq_some_iff.1 hx).1
 obtain ⟨b,o,e,hD,hc⟩:=h.2 (by have:=h.1;omega)
 obtain ⟨cs,⟨A0,n0,k0,C0,m0,d0,rfl,-⟩,hcs⟩:=hc i x hx
 exact ⟨b,o,A0,n0,k0,C0,m0,d0,e,hD,fun k v hv=>by have h1:=hcs k v hv;rw [show nodEn.k=13 from rfl,←Nat.add_assoc] at h1;exact h1⟩
theorem OReach_any {A F:Option Addr} {n c k d:Nat} {ns:List NodV} {rs:List Bool} (hr:reachL ns (walkW ns [1]).1=rs) (w:World) (h:RdE nodEn w (Under w.heap.size) A n ns) (hf:RdE Enc.int w (Under w.heap.size) F k [1]) (hM:Many ns):Calls Tryz.prog 40 #[.agg #[.slice A n c],.slice F k d] w (ReachO w rs):=by
 refine (Reach_any w h hf hM (by have:=hf.1;simp at this;omega)).mono ?_
 rw [hr]
 rintro e w' ⟨A,n,c,rfl,-,hd,hb,hlo⟩
 exact ⟨A,n,c,w.heap.size,w'.heap.size,rfl,Nat.le_refl _,⟨⟨hd.1,fun hn=>by obtain ⟨b,o,e,h1,hc⟩:=hd.2 hn;exact ⟨b,o,e,hlo b o e,h1,hc⟩⟩,Nat.le_refl _⟩,hb⟩
theorem rd_cell {w:World} {B b o n:Nat} {rs:List Bool} (h:Rd Value.bool w B (some ⟨b,o,none⟩) n rs) {i:Nat} {r:Bool} (hi:rs[i]?=some r):w.cell? ⟨b,o+i,none⟩=some (.bool r):=by
 obtain ⟨b',o',e,-,hc⟩:=h.2 (by have:=(List.getElem?_eq_some_iff.1 hi).1;have:=h.1;omega)
 cases e
 exact hc i r hi
theorem rd_some {w:World} {B n:Nat} {A:Option Addr} {rs:List Bool} (h:Rd Value.bool w B A n rs) (hn:0 < n):∃b o,A=some ⟨b,o,none⟩:=by
 obtain ⟨b',o',e,-⟩:=h.2 hn
 exact ⟨b',o',e⟩
end Go.Proofs.YtpndfahgflgocaaGreatDoor

