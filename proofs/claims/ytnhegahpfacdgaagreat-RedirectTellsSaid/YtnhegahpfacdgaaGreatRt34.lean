import Derived.Test.YtnhegahpfacdgaaGreatRt20
import Derived.Test.YtnhegahpfacdgaaGreatRt18
import Derived.Test.YtnhegahpfacdgaaGreatRt33
import Derived.Test.YtnhegahpfacdgaaGreatRt31
import Derived.Test.YtnhegahpfacdgaaGreatRt13
import Derived.Test.YtnhegahpfacdgaaGreatRt26

namespace Go.Proofs.YtnhegahpfacdgaaGreat
open Go.RowKit Go.Shelf Plain

theorem take_zipR (l:List WayV) (O:List Int) (k:Nat):(l.zip O).take k=(l.take k).zip (O.take k):=by
 unfold List.zip
 exact List.take_zipWith
theorem ofR_step {l:List WayV} {O:List Int} {k:Nat} {y:WayV} {c i:Int} (hn:(l.map WayV.ino).Nodup) (hy:l[k]?=some y) (hc:O[k]?=some c):ofR (l.take (k+1)) (O.take (k+1)) i=if y.ino=i then c else ofR (l.take k) (O.take k) i:=by
 have hz:(l.zip O)[k]?=some (y,c):=by rw [List.getElem?_zip_eq_some];exact ⟨hy,hc⟩
 unfold ofR
 rw [←take_zipR,←take_zipR,List.take_add_one,hz,Option.toList_some,List.find?_append]
 cases hf:((l.zip O).take k).find? (fun z=>z.1.ino==i) with
 | none =>
  by_cases h:y.ino=i
  ·rw [if_pos h];simp [List.find?,h]
  ·have hb:(y.ino==i)=false:=by simpa using h
   rw [if_neg h]
   simp [List.find?,hb]
 | some z =>
  have h1:z.1.ino=i:=by simpa using List.find?_some hf
  obtain ⟨j,hj⟩:=List.mem_iff_getElem?.1 (List.mem_of_find?_eq_some hf)
  have hjk:j < k:=by
   have:=(List.getElem?_eq_some_iff.1 hj).1
   rw [List.length_take] at this
   omega
  rw [List.getElem?_take_of_lt hjk] at hj
  obtain ⟨h2,h3⟩:=List.getElem?_zip_eq_some.1 hj
  have hne:y.ino≠i:=fun e=>by
   have:=nodup_get hn h2 hy (h1.trans e.symm)
   omega
  rw [if_neg hne]
  rfl
theorem ofR_zero (l:List WayV) (O:List Int) (i:Int):ofR (l.take 0) (O.take 0) i=9:=rfl
theorem ofR_full {l:List WayV} {O:List Int} {n:Nat} (i:Int) (h1:l.length=n) (h2:O.length=n):ofR (l.take n) (O.take n) i=ofR l O i:=by
 rw [List.take_of_length_le (by omega),List.take_of_length_le (by omega)]
theorem up_oneR {ns:List NodV} {l:List WayV} {j:Nat} {y:WayV} (hl:(walkW ns [1]).1=l) (hy:l[j]?=some y):y.up < 0↔y.ino=1:=by
 have hu:=walk_upv ns
 rw [hl] at hu
 have hn:(l.map WayV.ino).Nodup:=by
  have h1:=walk_ok ns [1]
  rw [hl] at h1
  exact h1.2
 have h0:=hu j y hy
 rcases Nat.eq_zero_or_pos j with e|e
 ·have h1:=h0.1 e
  constructor
  ·intro _;exact h1.2
  ·intro _;rw [h1.1];decide
 ·obtain ⟨p,hp,-⟩:=h0.2 e
  constructor
  ·intro h;omega
  ·intro h
   obtain ⟨x,hx⟩:∃x,l[0]?=some x:=⟨_,List.getElem?_eq_getElem (by have:=(List.getElem?_eq_some_iff.1 hy).1;omega)⟩
   have h2:=(hu 0 x hx).1 rfl
   have:=nodup_get hn hx hy (by rw [h2.2,h])
   omega
end Go.Proofs.YtnhegahpfacdgaaGreat

namespace Go.Proofs.YtnhegahpfacdgaaGreat
open Go.RowKit Go.Shelf Plain

set_option maxRecDepth 100000 in
set_option maxHeartbeats 8000000 in
theorem RefClause_any {g:GeoQ} {AU AL:Option Addr} {nU cU nL cL B:Nat} {up:List NodV} {l:List WayV} {TV:List ViewV} {n i cW cV BW BV:Nat} {AW AV:Option Addr} {y:WayV} {v:ViewV} {x:NodV} {c0:Int} (hy:l[i]?=some y) (hx:nodAt up y.ino=x) (hv:TV[i]?=some v) (hc0:clR up l v i y=c0) (hz:clmR v=(0,0)↔v.2=[]) (hu1:y.up < 0↔y.ino=1) (hn:n≤24) (w:World) (hw:RdE wayEn w (Under BW) AW n l) (hBW:BW≤w.heap.size) (ht:RdE viewEn w (Under BV) AV n TV) (hBV:BV≤w.heap.size) (hu:RdE nodEn w (Under B) AU nU up) (hB:B≤w.heap.size) (hup:FewU up):Calls Tryz.prog 48 #[.agg (stkC g (.slice AU nU cU) (.slice AL nL cL)).toArray,.slice AW n cW,.slice AV n cV,.int .i64 i] w (fun e w'=>e=.returned (.int .i64 c0)∧Below w.heap.size w w'):=by
 obtain ⟨W1,hW1⟩:∃W1,(w.alloc (.cells (stkC g (.slice AU nU cU) (.slice AL nL cL)).toArray 29))=W1:=⟨_,rfl⟩
 obtain ⟨r0,hb1,hs1⟩:=rowA1 w _ _ hW1
 have hW1':(w.alloc (.cells #[.int .i64 g.a,.int .i64 g.b,.int .i64 g.c,.int .i64 g.d,.slice AU nU cU,.slice AL nL cL] 29))=W1:=hW1
 have R4:=hide r0
 have HB:=hide hb1
 have hsz0:=hb1.size
 have HU:=hide (hu.under hb1 hB)
 have HFU:=hide hup
 have HX:=hide hx
 have HW:=hide (hw.under hb1 hBW)
 have HV:=hide (ht.under hb1 hBV)
 have hxp:PlainN x:=by rw [←hx];exact nodAt_plain hup.2 _
 have HXP:=hide hxp
 have hil:i < n:=by have h1:=(List.getElem?_eq_some_iff.1 hy).1;have h2:=hw.1;omega
 obtain ⟨bW,oW,hAW,hbW,hcW⟩:=way_get HW.out hy
 have qy:W1.cell? ⟨bW,oW+i*3,none⟩=some (.int .i64 y.ino):=hcW 0 _ rfl
 have qu:W1.cell? ⟨bW,oW+i*3+1,none⟩=some (.int .i64 y.up):=hcW 1 _ rfl
 have hbW1:bW < W1.heap.size:=by have h1:bW < BW:=hbW;omega
 obtain ⟨bV,oV,A2,c2,hAV,hbV,hcv,-⟩:=view_get HV.out hv
 have qv:W1.cell? ⟨bV,oV+i*2+1,none⟩=some (.slice A2 v.2.length c2):=hcv 1 _ rfl
 have hbV1:bV < W1.heap.size:=by have h1:bV < BV:=hbV;omega
 have hin:(i:Int) < (n:Int):=by omega
 obtain ⟨rl,hrl⟩:∃rl,redL x.att.r=rl:=⟨_,rfl⟩
 obtain ⟨ra,hra⟩:∃ra,redA x.att.r=ra:=⟨_,rfl⟩
 obtain ⟨rb,hrb⟩:∃rb,redB x.att.r=rb:=⟨_,rfl⟩
 have HRD:=hide (fun W=>RRed_e hrl hra hrb W)
 obtain ⟨b2,hb2⟩:∃b2,loopR (pathS l (i:Int)) x.att.r=b2:=⟨_,rfl⟩
 have HB2:=hide hb2
 obtain ⟨ob,hob⟩:∃ob,opqD x=ob:=⟨_,rfl⟩
 have HOB:=hide hob
 obtain ⟨u1,hu1'⟩:∃u1,decide (y.up < 0)=u1:=⟨_,rfl⟩
 obtain ⟨N,hN⟩:∃N,v.2.length=N:=⟨_,rfl⟩
 have hcl:clR up l v i y=if u1=true∨rb=false then 9 else if b2=true then 10 else if N=0∧ob=false then 11 else 0:=by
  unfold clR
  rw [hx,hrb,hb2,hob,←hu1',←hN]
  have e1:(y.ino=1∨rb=false)↔(decide (y.up < 0)=true∨rb=false):=by rw [decide_eq_true_eq,hu1]
  have e2:(clmR v=(0,0)∧ob=false)↔(v.2.length=0∧ob=false):=by rw [hz,List.length_eq_zero_iff]
  simp only [e1,e2]
 rw [hc0] at hcl
 have HCL:=hide hcl
 have HLN:=hide hw.1
 have hpl:=path_len l (i:Int)
 rw [hw.1] at hpl
 rw [hN] at qv
 subst hAW hAV
 unfold stkC
 clear hx hv hc0 hz hu1 hw ht hu hup hrl hra hrb hb2 hob hcl hxp hbW hcW hcv hbV hN hy r0 hb1 hW1
 go_enter Tryz.func48,Tryz.ntmps48
 go_upto_region 1 with fail
 go_cut [9] from 13 to 21 (fun v9 wx=>∃(g9:Nat) (Ad:Option Addr) (nd kd:Nat) (Ce:Option Addr) (me de:Nat),v9=.pointer (some ⟨g9,0,none⟩)∧W1.heap.size≤g9∧RowL wx g9 65 (nodC x (.slice Ad nd kd) (.slice Ce me de))∧Below W1.heap.size W1 wx)
 case first =>
  refine wp_region_G (fun w'=>Below (W1.heap.size) W1 w') (.take 0 (.take 1 (.take 2 (.take 3 (.take 4 (.take 5 (.take 6 (.alt 7 (.alt 8 (.alt 9 .leaf .stop) .stop) (.alt 8 (.alt 7 (.alt 9 .leaf .stop) .stop) .stop))))))))) (by kernel_rfl) (by kernel_rfl) (by kernel_rfl) (by kernel_rfl) rfl (fun _ _ _ _ _ h=>h) (below_drew (below_self W1)) (fun hHeld=>?_)
  generalize W1.drew=wd at *
  simp only [PT.map,List.getElem?_toArray,List.getElem?_cons_succ,List.getElem?_cons_zero]
  refine wpPT_take (v:=?_) (by kernel_rfl) (fun wS hSw=>?_) ?_
  rotate_left
  ·(try dsimp only at hSw);go_simp;(try with_reducible rfl)
  (try simp only [Act.put,pu1,pu2,pu3])
  refine wpPT_take (v:=?_) (by kernel_rfl) (fun wS hSw=>?_) ?_
  rotate_left
  ·refine execOp_load (x:=.tmp 13) (k:=1) (g:=w.heap.size) (off:=4) (cs:=[.slice AU nU cU]) ?_ lay_agg lay_size ?_ (fun j v hv=>((R4.out.on hSw).cell (4+j)).trans (sub_cell (cur:=stkC g (.slice AU nU cU) (.slice AL nL cL)) (k:=1) rfl hv)) rfl <;> rfl
  (try simp only [Act.put,pu1,pu2,pu3])
  iterate 4
   refine wpPT_take (v:=?_) (by kernel_rfl) (fun wS hSw=>?_) ?_
   rotate_left
   ·(try dsimp only at hSw);go_simp;(try with_reducible rfl)
   (try simp only [Act.put,pu1,pu2,pu3])
  refine wpPT_take (v:=?_) (by kernel_rfl) (fun wS hSw=>?_) ?_
  rotate_left
  ·have qx':wS.cell? ⟨bW,oW+i*3,none⟩=some (.int .i64 y.ino):=(hSw.cell hbW1).trans qy;go_simp;(try with_reducible rfl)
  (try simp only [Act.put,pu1,pu2,pu3])
  refine wpPT_alt (by kernel_rfl) (fun K hK=>?_) ?_
  ·skip
   have hOld:=hide hHeld
   clear hHeld
   go_simp
   go_at_call 50
   refine (At_e HX.out (B:=B) _ (HU.out.under hOld.out (by omega)) (by have:=hOld.out.size;omega) (by have:=HFU.out.1;omega)).mono ?_
   rintro e w' ⟨Ad,nd,kd,Ce,me,de,rfl,-,-,-,-,hbel⟩
   have hb':=hbel.mono (B':=W1.heap.size) (by have:=hOld.out.size;omega)
   clear hbel
   refine hK.out _ _ (hOld.out.trans hb') (fun hHeld=>?_)
   clear hK K
   (try simp only [Act.put,pu1,pu2,pu3])
   refine wpPT_alt (by kernel_rfl) (fun K hK=>?_) ?_
   rotate_left
   ·exact wpPT_stop
   have hOld:=hide hHeld
   clear hHeld
   unfold Oper.wp execOp
   go_simp
   have hal:=below_new (below_self w') (.cells #[.int .i64 0,.int .i64 0,.int .i64 0,.int .i64 0,.slice none 0 0,.slice none 0 0,.int .i64 0,.int .i64 0,.string ⟨#[]⟩,.int .i64 0,.int .i64 0,.int .i64 0,.int .i64 0] 65)
   have hb':=hal.mono (B':=W1.heap.size) (by have:=hOld.out.size;omega)
   have HFN:=hide (show RowL (w'.alloc (.cells #[.int .i64 0,.int .i64 0,.int .i64 0,.int .i64 0,.slice none 0 0,.slice none 0 0,.int .i64 0,.int .i64 0,.string ⟨#[]⟩,.int .i64 0,.int .i64 0,.int .i64 0,.int .i64 0] 65)) w'.heap.size 65 (nodC nod0 (.slice none 0 0) (.slice none 0 0)) from RowL.new w' 65 (nodC nod0 (.slice none 0 0) (.slice none 0 0)))
   have g9l:W1.heap.size≤w'.heap.size:=hOld.out.size
   refine hK.out _ _ (hOld.out.trans hb') (fun hHeld=>?_)
   clear hK K
   have R9:=HFN
   clear hal hb' hOld HFN
   generalize w'.alloc (.cells #[.int .i64 0,.int .i64 0,.int .i64 0,.int .i64 0,.slice none 0 0,.slice none 0 0,.int .i64 0,.int .i64 0,.string ⟨#[]⟩,.int .i64 0,.int .i64 0,.int .i64 0,.int .i64 0] 65)=z1 at *
   generalize w'.heap.size=g9 at *
   (try simp only [Act.put,pu1,pu2,pu3])
   refine wpPT_alt (by kernel_rfl) (fun K hK=>?_) ?_
   rotate_left
   ·exact wpPT_stop
   have hOld:=hide hHeld
   clear hHeld
   refine wp_storeC 65 (.tmp 9) (.tmp 20) rfl 13 nod_size g9 0 65 rfl (nodC nod0 (.slice none 0 0) (.slice none 0 0)) (nodC x (.slice Ad nd kd) (.slice Ce me de)) rfl R9.out rfl (by exact Nat.le_refl _) (nodC_one _ _ _ _ _ _ _) ?_
   intro w' hr' hg' hs'
   rw [splice_all (nodC nod0 (.slice none 0 0) (.slice none 0 0)) (nodC x (.slice Ad nd kd) (.slice Ce me de)) rfl] at hr'
   refine hK.out _ _ (hOld.out.grown hg' (by have:=hOld.out.size;omega) (pu4 (by omega))) (fun hHeld=>?_)
   clear hK K
   clear R9
   have R9:=hide hr'
   clear hg' hs' hr' hOld
   (try simp only [Act.put])
   refine wpPT_leaf ?_
   have HBX:=hide hHeld
   clear hHeld
   go_wp2_with fail
   go_meet
   case rel=>exact ⟨g9,Ad,nd,kd,Ce,me,de,rfl,g9l,R9.out,HBX.out⟩
  refine wpPT_alt (by kernel_rfl) (fun K hK=>?_) ?_
  ·skip
   have hOld:=hide hHeld
   clear hHeld
   unfold Oper.wp execOp
   go_simp
   have hal:=below_new (below_self wd) (.cells #[.int .i64 0,.int .i64 0,.int .i64 0,.int .i64 0,.slice none 0 0,.slice none 0 0,.int .i64 0,.int .i64 0,.string ⟨#[]⟩,.int .i64 0,.int .i64 0,.int .i64 0,.int .i64 0] 65)
   have hb':=hal.mono (B':=W1.heap.size) (by have:=hOld.out.size;omega)
   have HFN:=hide (show RowL (wd.alloc (.cells #[.int .i64 0,.int .i64 0,.int .i64 0,.int .i64 0,.slice none 0 0,.slice none 0 0,.int .i64 0,.int .i64 0,.string ⟨#[]⟩,.int .i64 0,.int .i64 0,.int .i64 0,.int .i64 0] 65)) wd.heap.size 65 (nodC nod0 (.slice none 0 0) (.slice none 0 0)) from RowL.new wd 65 (nodC nod0 (.slice none 0 0) (.slice none 0 0)))
   have g9l:W1.heap.size≤wd.heap.size:=hOld.out.size
   refine hK.out _ _ (hOld.out.trans hb') (fun hHeld=>?_)
   clear hK K
   have R9:=HFN
   clear hal hb' hOld HFN
   generalize wd.alloc (.cells #[.int .i64 0,.int .i64 0,.int .i64 0,.int .i64 0,.slice none 0 0,.slice none 0 0,.int .i64 0,.int .i64 0,.string ⟨#[]⟩,.int .i64 0,.int .i64 0,.int .i64 0,.int .i64 0] 65)=z0 at *
   generalize wd.heap.size=g9 at *
   (try simp only [Act.put,pu1,pu2,pu3])
   refine wpPT_alt (by kernel_rfl) (fun K hK=>?_) ?_
   rotate_left
   ·exact wpPT_stop
   have hOld:=hide hHeld
   clear hHeld
   go_simp
   go_at_call 50
   refine (At_e HX.out (B:=B) _ (HU.out.under hOld.out (by omega)) (by have:=hOld.out.size;omega) (by have:=HFU.out.1;omega)).mono ?_
   rintro e w' ⟨Ad,nd,kd,Ce,me,de,rfl,-,-,-,-,hbel⟩
   have hb':=hbel.mono (B':=W1.heap.size) (by have:=hOld.out.size;omega)
   have R9':=hide (R9.out.on hbel)
   clear R9
   have R9:=R9'
   clear R9'
   clear hbel
   refine hK.out _ _ (hOld.out.trans hb') (fun hHeld=>?_)
   clear hK K
   (try simp only [Act.put,pu1,pu2,pu3])
   refine wpPT_alt (by kernel_rfl) (fun K hK=>?_) ?_
   rotate_left
   ·exact wpPT_stop
   have hOld:=hide hHeld
   clear hHeld
   refine wp_storeC 65 (.tmp 9) (.tmp 20) rfl 13 nod_size g9 0 65 rfl (nodC nod0 (.slice none 0 0) (.slice none 0 0)) (nodC x (.slice Ad nd kd) (.slice Ce me de)) rfl R9.out rfl (by exact Nat.le_refl _) (nodC_one _ _ _ _ _ _ _) ?_
   intro w' hr' hg' hs'
   rw [splice_all (nodC nod0 (.slice none 0 0) (.slice none 0 0)) (nodC x (.slice Ad nd kd) (.slice Ce me de)) rfl] at hr'
   refine hK.out _ _ (hOld.out.grown hg' (by have:=hOld.out.size;omega) (pu4 (by omega))) (fun hHeld=>?_)
   clear hK K
   clear R9
   have R9:=hide hr'
   clear hg' hs' hr' hOld
   (try simp only [Act.put])
   refine wpPT_leaf ?_
   have HBX:=hide hHeld
   clear hHeld
   go_wp2_with fail
   go_meet
   case rel=>exact ⟨g9,Ad,nd,kd,Ce,me,de,rfl,g9l,R9.out,HBX.out⟩
  exact wpPT_stop
 case rest =>
  obtain ⟨g9,Ad,nd,kd,Ce,me,de,rfl,hg9,hr9,hbx⟩:=hcut
  rename World=>w2
  have hz2:=hbx.size
  have R9:=hide hr9
  have HB2w:=hide (HB.out.trans (hbx.mono (by omega)))
  have HW2:=hide (HW.out.under hbx (by omega))
  have qu2:w2.cell? ⟨bW,oW+i*3+1,none⟩=some (.int .i64 y.up):=(hbx.cell (p:=⟨bW,oW+i*3+1,none⟩) hbW1).trans qu
  have qv2:w2.cell? ⟨bV,oV+i*2+1,none⟩=some (.slice A2 N c2):=(hbx.cell (p:=⟨bV,oV+i*2+1,none⟩) hbV1).trans qv
  have q98:w2.cell? ⟨g9,8,none⟩=some (.string ⟨x.att.r.toArray⟩):=hr9.cell 8
  clear hr9 hbx qy qu qv HU HW HV HB R4
  go_wp2_with fail
  refine (HRD.out _).mono ?_
  rintro e3 w3 ⟨AN,nN,cN,rfl,-,hbel3⟩
  have hz3:=hbel3.size
  have hg9l:=R9.out.lt
  have R93:=hide (R9.out.on hbel3)
  have HB3:=hide (HB2w.out.trans (hbel3.mono (by have:=HB2w.out.size;omega)))
  have HW3:=hide (HW2.out.under hbel3 (by omega))
  have qu3:w3.cell? ⟨bW,oW+i*3+1,none⟩=some (.int .i64 y.up):=(hbel3.cell (p:=⟨bW,oW+i*3+1,none⟩) (by show bW < _;omega)).trans qu2
  have qv3:w3.cell? ⟨bV,oV+i*2+1,none⟩=some (.slice A2 N c2):=(hbel3.cell (p:=⟨bV,oV+i*2+1,none⟩) (by show bV < _;omega)).trans qv2
  clear hbel3 qu2 qv2 q98 HW2 HB2w R9 HRD
  cases u1 with
  | true =>
   have hy1:=of_decide_eq_true hu1'
   have hc9:c0=9:=by rw [HCL.out,if_pos (.inl rfl)]
   subst hc9
   clear hu1'
   go_wp2_with fail
   go_ret
   exact ⟨rfl,HB3.out⟩
  | false =>
   have hy1:=of_decide_eq_false hu1'
   clear hu1'
   cases rb with
   | false =>
    have hc9:c0=9:=by rw [HCL.out,if_pos (.inr rfl)]
    subst hc9
    go_wp2_with fail
    go_ret
    exact ⟨rfl,HB3.out⟩
   | true =>
    have hcl2:c0=if b2=true then 10 else if N=0∧ob=false then 11 else 0:=by rw [HCL.out,if_neg (by simp)]
    have HCL2:=hide hcl2
    clear hcl2 HCL
    go_wp2_with fail
    refine wp_region_planN (fun w'=>Below w3.heap.size w3 w') [(0,true),(1,true),(3,true),(4,true),(5,true),(2,false),(6,false)] (by kernel_rfl) (by kernel_rfl) (by kernel_rfl) (by kernel_rfl) rfl (fun _ _ _ _ _ h=>h) (below_drew (below_self w3)) (fun hHeld=>?_)
    simp only [planOps,List.filterMap_cons,List.filterMap_nil,List.getElem?_toArray,List.getElem?_cons_succ,List.getElem?_cons_zero,Option.map_some]
    iterate 4
     refine wpPlan_take (v:=?_) (by kernel_rfl) (fun wS hSw=>?_) ?_
     rotate_left
     ·(try dsimp only at hSw);go_simp;(try with_reducible rfl)
     (try simp only [Act.put,pu1,pu2,pu3])
    refine wpPlan_take (v:=?_) (by kernel_rfl) (fun wS hSw=>?_) ?_
    rotate_left
    ·have qx':wS.cell? ⟨g9,8,none⟩=some (.string ⟨x.att.r.toArray⟩):=(R93.out.on hSw).cell 8;go_simp;(try with_reducible rfl)
    (try simp only [Act.put,pu1,pu2,pu3])
    refine wpPlan_call (by kernel_rfl) (fun K hK=>?_)
    have hOld:=hide hHeld
    clear hHeld
    go_simp
    go_at_call 76
    refine (RPath_any _ (und_up (HW3.out.under hOld.out (by omega)) (by have:=hOld.out.size;omega)) (by omega)).mono ?_
    rintro e w' ⟨AP,cP,rfl,hop,hbel⟩
    have HOP:=hide hop.rd
    have hcp:=hop.cap
    have hwp:=hbel.size
    clear hop
    refine hK.out _ _ (hOld.out.trans (hbel.mono hOld.out.size)) (fun hHeld=>?_)
    clear hK K
    (try simp only [Act.put,pu1,pu2,pu3])
    refine wpPlan_call (by kernel_rfl) (fun K hK=>?_)
    have hOld:=hide hHeld
    clear hHeld
    go_simp
    go_at_call 13
    refine (RefLoops_b HB2.out _ HOP.out (by omega) (by omega) (by omega) (by have:=HXP.out.2.2.2.2.2.1;omega)).mono ?_
    rintro e w' ⟨rfl,hbel⟩
    clear HOP
    refine hK.out _ _ (hOld.out.trans (hbel.mono hOld.out.size)) (fun hHeld=>?_)
    clear hK K
    (try simp only [Act.put,pu1,pu2,pu3])
    refine wpPlan_end ?_
    rename World=>w4
    have hz4:=hHeld.size
    have HB4:=hide (HB3.out.trans (hHeld.mono (by have:=HB3.out.size;omega)))
    have R94:=hide (R93.out.on hHeld)
    have qv4:w4.cell? ⟨bV,oV+i*2+1,none⟩=some (.slice A2 N c2):=(hHeld.cell (p:=⟨bV,oV+i*2+1,none⟩) (by show bV < _;omega)).trans qv3
    clear hHeld hcp hwp
    cases b2 with
    | true =>
     have hc9:c0=10:=by rw [HCL2.out,if_pos rfl]
     subst hc9
     go_wp2_with fail
     go_ret
     exact ⟨rfl,HB4.out⟩
    | false =>
     have hcl3:c0=if N=0∧ob=false then 11 else 0:=by rw [HCL2.out,if_neg (by simp)]
     have HCL3:=hide hcl3
     clear hcl3
     by_cases hN0:N=0
     ·have hNd:decide ((N:Int)=0)=true:=decide_eq_true (by omega)
      have hNi:(N:Int)=0:=by omega
      have qn0:w4.cell? ⟨g9,0,none⟩=some (.int .i64 x.k):=R94.out.cell 0
      have qn1:w4.cell? ⟨g9,1,none⟩=some (.int .i64 x.p):=R94.out.cell 1
      have qn2:w4.cell? ⟨g9,2,none⟩=some (.int .i64 x.n):=R94.out.cell 2
      have qn3:w4.cell? ⟨g9,3,none⟩=some (.int .i64 x.g):=R94.out.cell 3
      have qn4:w4.cell? ⟨g9,4,none⟩=some (.slice Ad nd kd):=R94.out.cell 4
      have qn5:w4.cell? ⟨g9,5,none⟩=some (.slice Ce me de):=R94.out.cell 5
      have qn6:w4.cell? ⟨g9,6,none⟩=some (.int .i64 x.att.h):=R94.out.cell 6
      have qn7:w4.cell? ⟨g9,7,none⟩=some (.int .i64 x.att.o):=R94.out.cell 7
      have qn8:w4.cell? ⟨g9,8,none⟩=some (.string ⟨x.att.r.toArray⟩):=R94.out.cell 8
      have qn9:w4.cell? ⟨g9,9,none⟩=some (.int .i64 x.att.l):=R94.out.cell 9
      have qn10:w4.cell? ⟨g9,10,none⟩=some (.int .i64 x.att.i):=R94.out.cell 10
      have qn11:w4.cell? ⟨g9,11,none⟩=some (.int .i64 x.att.g):=R94.out.cell 11
      have qn12:w4.cell? ⟨g9,12,none⟩=some (.int .i64 x.att.s):=R94.out.cell 12
      go_wp2_with fail
      refine (RVOpq_b HOB.out HXP.out.2.2.1.1 HXP.out.2.2.1.2 w4).mono ?_
      rintro e8 w8 ⟨rfl,hbel8⟩
      have HB8:=hide (HB4.out.trans (hbel8.mono HB4.out.size))
      clear hbel8
      cases ob with
      | false =>
       have hc9:c0=11:=by rw [HCL3.out,if_pos ⟨hN0,rfl⟩]
       subst hc9
       go_wp2_with fail
       go_ret
       exact ⟨rfl,HB8.out⟩
      | true =>
       have hc9:c0=0:=by rw [HCL3.out,if_neg (by simp)]
       subst hc9
       go_wp2_with fail
       go_ret
       exact ⟨rfl,HB8.out⟩
     ·have hNd:decide ((N:Int)=0)=false:=decide_eq_false (by omega)
      have hNi:¬(N:Int)=0:=by omega
      have hc9:c0=0:=by rw [HCL3.out,if_neg (fun h=>hN0 h.1)]
      subst hc9
      go_wp2_with fail
      go_ret
      exact ⟨rfl,HB4.out⟩
end Go.Proofs.YtnhegahpfacdgaaGreat

