import Derived.Test.YtnhegahpfacdgaaGreatRt31
import Derived.Test.YtnhegahpfacdgaaGreatRt30

namespace Go.Proofs.YtnhegahpfacdgaaGreat
open Go.RowKit Go.Shelf Plain Go.Maps

def toldR (up : List NodV) (ls : List (List NodV)) (l : List WayV) : Nat → Int → Option Int
 | 0,_=>none
 | k+1,i=>match l[k]?,(runR up ls l (k+1)).2[k]? with
  | some y,some c=>if hasR (nodAt up y.ino)=true then (if i=y.ino then some c else toldR up ls l k i) else toldR up ls l k i
  | _,_=>toldR up ls l k i
theorem toldR_no {up:List NodV} {ls:List (List NodV)} {l:List WayV} {k:Nat} {y:WayV} (hy:l[k]?=some y) (h:hasR (nodAt up y.ino)=false):toldR up ls l (k+1)=toldR up ls l k:=by
 funext i
 rw [toldR,hy]
 split
 ·rename_i y2 c e _
  obtain rfl:=Option.some.inj e
  rw [if_neg (by simp [h])]
 ·rfl
theorem toldR_yes {up:List NodV} {ls:List (List NodV)} {l:List WayV} {k:Nat} {y:WayV} {v:ViewV} (hy:l[k]?=some y) (hv:(treeV up ls l)[k]?=some v) (h:hasR (nodAt up y.ino)=true):toldR up ls l (k+1)=fun i=>if i=y.ino then some (endR (runR up ls l k).1 (clR up l v k y) (clmR v)) else toldR up ls l k i:=by
 funext i
 have hk:=(List.getElem?_eq_some_iff.1 hy).1
 have h1:(runR up ls l (k+1)).2[k]?=some (endR (runR up ls l k).1 (clR up l v k y) (clmR v)):=by
  rw [runR_succ hy hv,if_pos h]
  unfold stepR
  simp only
  rw [List.getElem?_append_right (by rw [runR_len k (by omega)];omega),runR_len k (by omega),Nat.sub_self]
  rfl
 rw [toldR,hy,h1]
 simp only [h,if_pos]
theorem run_out {up:List NodV} {ls:List (List NodV)} {l:List WayV} {k j:Nat} (hk:k≤j) (hj:j≤l.length):(runR up ls l k).2 <+: (runR up ls l j).2:=by
 induction j with
 | zero =>
  obtain rfl:k=0:=by omega
  exact List.prefix_refl _
 | succ j ih =>
  rcases Nat.lt_or_ge k (j+1) with h|h
  ·exact (ih (by omega) (by omega)).trans (runR_pre j)
  ·obtain rfl:k=j+1:=by omega
   exact List.prefix_refl _
theorem toldR_all {up : List NodV} {ls : List (List NodV)} {l : List WayV} (hn : (l.map WayV.ino).Nodup) : ∀ k, k ≤ l.length → ∀ j y, j < k → l[j]? = some y → hasR (nodAt up y.ino) = true → toldR up ls l k y.ino = (runR up ls l l.length).2[j]?
 | 0,_,j,y,hj,_,_=>absurd hj (by omega)
 | k+1,hk,j,y,hj,hy,hR=>by
  obtain ⟨y2,hy2⟩:∃y2,l[k]?=some y2:=⟨_,List.getElem?_eq_getElem (by omega)⟩
  have h2:(treeV up ls l).length=l.length:=tree_len up ls l
  obtain ⟨v,hv⟩:∃v,(treeV up ls l)[k]?=some v:=⟨_,List.getElem?_eq_getElem (by omega)⟩
  rcases Nat.lt_or_ge j k with h|h
  ·have hne:y.ino≠y2.ino:=fun e=>by have:=nodup_get hn hy hy2 e;omega
   have ih:=toldR_all (up:=up) (ls:=ls) hn k (by omega) j y h hy hR
   cases h3:hasR (nodAt up y2.ino) with
   | false=>rw [toldR_no hy2 h3];exact ih
   | true=>rw [toldR_yes hy2 hv h3];simp only [if_neg hne];exact ih
  ·obtain rfl:j=k:=by omega
   rw [hy] at hy2
   obtain rfl:=Option.some.inj hy2
   rw [toldR_yes hy hv hR]
   simp only [if_pos]
   obtain ⟨t,ht⟩:=run_out (up:=up) (ls:=ls) (l:=l) (k:=j+1) (j:=l.length) hk (Nat.le_refl _)
   rw [←ht,List.getElem?_append_left (by rw [runR_len _ hk];omega),runR_succ hy hv,if_pos hR]
   unfold stepR
   simp only
   rw [List.getElem?_append_right (by rw [runR_len j (by omega)];omega),runR_len j (by omega),Nat.sub_self]
   rfl
theorem toldR_none {up : List NodV} {ls : List (List NodV)} {l : List WayV} {i : Int} (h : ∀ y ∈ l, y.ino ≠ i) : ∀ k, toldR up ls l k i = none
 | 0=>rfl
 | k+1=>by
  unfold toldR
  split
  ·rename_i y c hy _
   have h1:=h y (List.mem_of_getElem? hy)
   split
   ·rw [if_neg (fun e=>h1 e.symm)];exact toldR_none h k
   ·exact toldR_none h k
  ·exact toldR_none h k
theorem told_or {up:List NodV} {ls:List (List NodV)} {l:List WayV} (hn:(l.map WayV.ino).Nodup) {i:Int} (hR:hasR (nodAt up i)=true):(toldR up ls l l.length i).getD 9=ofR l (runR up ls l l.length).2 i:=by
 by_cases h:∃y∈l,y.ino=i
 ·obtain ⟨y,hy,rfl⟩:=h
  obtain ⟨j,hj⟩:=List.mem_iff_getElem?.1 hy
  have hjl:=(List.getElem?_eq_some_iff.1 hj).1
  obtain ⟨c,hc⟩:∃c,(runR up ls l l.length).2[j]?=some c:=⟨_,List.getElem?_eq_getElem (by rw [runR_len _ (Nat.le_refl _)];exact hjl)⟩
  rw [toldR_all hn l.length (Nat.le_refl _) j y hjl hj hR,hc,ofR_some hn hj hc]
  rfl
 ·have h2:∀y∈l,y.ino≠i:=fun y hy e=>h ⟨y,hy,e⟩
  rw [toldR_none h2,ofR_none h2]
  rfl
theorem takF_end (t:List (Int×Int)) (c:Int) (p:Int×Int):(if c=0∧takF t p=true then 12 else c)=endR t c p:=by
 unfold endR takF
 by_cases h1:c=0 <;> by_cases h2:p=(0,0) <;> by_cases h3:p∈t <;> simp [h1,h2,h3]
theorem TrQ.other {w w':World} {lo hi gT bM cM k:Nat} {g:GeoQ} {AU AL AW AC:Option Addr} {nU cU nL cL n cW cC:Nat} {l:List WayV} {cl:List (Int×Int)} {f:Int×Int→Bool} (h:TrQ w lo hi gT bM cM g AU AL AW AC nU cU nL cL n cW cC l cl f) (hg:w.grownBy w' (some k)) (h1:hi≤k) (h2:gT≠k) (h3:bM≠k):TrQ w' lo hi gT bM cM g AU AL AW AC nU cU nL cL n cW cC l cl f :=
 ⟨h.row.grown hg (fun e=>h2 (Option.some.inj e)),h.ways.mono (fun b hb=>hg.block b (Nat.lt_of_lt_of_le hb.2.1 h.hiw) (fun e=>by have h4:=hb.2.1;have h5:b=k:=Option.some.inj e;omega)) (fun _ h=>h),h.clms.mono (fun b hb=>hg.block b (Nat.lt_of_lt_of_le hb.2.1 h.hiw) (fun e=>by have h4:=hb.2.1;have h5:b=k:=Option.some.inj e;omega)) (fun _ h=>h),h.set.kept hg (fun e=>h3 (Option.some.inj e)),h.lgT,h.lbM,h.ne,Nat.le_trans h.hiw hg.size⟩
theorem grown_new {a b c:World} {row:Option Nat} {k:Nat} (h:a.grownBy b row) (h2:b.grownBy c (some k)) (hk:a.heap.size≤k):a.grownBy c row :=
 ⟨h2.os.trans h.os,h2.tape.trans h.tape,h2.output.trans h.output,Nat.le_trans h.size h2.size,fun i hi hne=>(h2.block i (Nat.lt_of_lt_of_le hi h.size) (fun e=>by have h5:i=k:=Option.some.inj e;omega)).trans (h.block i hi hne)⟩
theorem Clause_e {g:GeoQ} {AU AL AW AC:Option Addr} {nU cU nL cL n cW cC B lo hi gT bM cM:Nat} {up:List NodV} {l:List WayV} {cl:List (Int×Int)} {f:Int×Int→Bool} {i:Nat} {v:ViewV} {y:WayV} {x:NodV} {q:Int×Int} {c0 e:Int} {ft:Bool} (he:(if c0=0∧ft=true then 12 else c0)=e) (hy:l[i]?=some y) (hx:nodAt up y.ino=x) (hq:cl[i]?=some q) (hv:clmR v=q) (hc0:clR up l v i y=c0) (hqi:i64 q.1∧i64 q.2) (hft:f q=ft) (hn:n≤24) (w:World) (ht:TrQ w lo hi gT bM cM g AU AL AW AC nU cU nL cL n cW cC l cl f) (hu:RdE nodEn w (Under B) AU nU up) (hB:B≤w.heap.size) (hup:FewU up):Calls Tryz.prog 41 #[.pointer (some ⟨gT,0,none⟩),.int .i64 i] w (fun z w'=>z=.returned (.int .i64 e)∧Below w.heap.size w w'):=by
 subst he
 exact Clause_any hy hx hq hv hc0 hqi hft hn w ht hu hB hup
set_option maxRecDepth 100000 in
set_option maxHeartbeats 16000000 in
theorem RClauses_any {g:GeoQ} {AU AL AW AC:Option Addr} {nU cU nL cL n cW cC B lo hi gT bM cM:Nat} {up:List NodV} {l:List WayV} {cl:List (Int×Int)} {ls:List (List NodV)} (hcl:cl=(treeV up ls l).map clmR) (hci:∀q∈cl,i64 q.1∧i64 q.2) (hyi:∀y∈l,i64 y.ino) (hn:n≤24) (hc0:cM=0) (hlo:B≤lo) (w:World) (ht:TrQ w lo hi gT bM cM g AU AL AW AC nU cU nL cL n cW cC l cl (takF [])) (hu:RdE nodEn w (Under B) AU nU up) (hB:B≤w.heap.size) (hup:FewU up):Calls Tryz.prog 21 #[.pointer (some ⟨gT,0,none⟩)] w (fun e w'=>∃bT cT,e=.returned (.map (some bT))∧w.heap.size≤bT∧MapT w' bT cT (toldR up ls l l.length)∧w.grownBy w' (some bM)):=by
 have HCL:=hide hcl
 have HCI:=hide hci
 have HYI:=hide hyi
 have HFU:=hide hup
 have HT0:=hide ht
 have HU0:=hide hu
 have HLN:=hide (show l.length=n from ht.ways.1)
 have HVN:=hide (tree_len up ls l)
 have hbMl:=ht.lbM
 have hgTl:=ht.row.lt
 have hbMw:=ht.set.lt
 have hhi:=ht.hiw
 have q1:w.cell? ⟨gT,6,none⟩=some (.slice AW n cW):=ht.row.cell 6
 subst hc0
 clear hcl hci hyi hup ht hu
 go_enter Tryz.func21,Tryz.ntmps21
 go_wp2_with fail
 go_step3
 go_wp2_with fail
 go_loopw [12] (fun v12 wr=>∃(j c1:Nat),j≤n∧c1≤j∧v12=.int .i64 j∧TrQ wr lo hi gT bM c1 g AU AL AW AC nU cU nL cL n cW cC l cl (takF (takR up ls l j))∧w.grownBy wr (some bM)) (fun v12 _=>n - (intOf v12).toNat)
 case atStart=>exact ⟨0,0,by omega,by omega,rfl,HT0.out,World.grownBy.refl _ _⟩
 case round =>
  obtain ⟨j,c1,hj,hc1,rfl,ht,hg⟩:=hrel
  have hgs:=hg.size
  by_cases hlt:j < n
  ·have hjl:(j:Int) < (n:Int):=by omega
   obtain ⟨y,hy⟩:∃y,l[j]?=some y:=⟨_,List.getElem?_eq_getElem (by have:=HLN.out;omega)⟩
   obtain ⟨v,hv⟩:∃v,(treeV up ls l)[j]?=some v:=⟨_,List.getElem?_eq_getElem (by have:=HLN.out;have:=HVN.out;omega)⟩
   have hq:cl[j]?=some (clmR v):=by rw [HCL.out,List.getElem?_map,hv];rfl
   have hqi:=HCI.out _ (List.mem_of_getElem? hq)
   have hyi:=HYI.out y (List.mem_of_getElem? hy)
   obtain ⟨x,hx⟩:∃x,nodAt up y.ino=x:=⟨_,rfl⟩
   have hxp:PlainN x:=by rw [←hx];exact nodAt_plain HFU.out.2 _
   have hxh:=hxp.2.2.1
   obtain ⟨r,hr⟩:∃r,hasR x=r:=⟨_,rfl⟩
   have HY:=hide hy
   have HX:=hide hx
   have HRB:=hide hr
   have HQ:=hide hq
   have HV:=hide hv
   have HT:=hide ht
   have HG:=hide hg
   have HU:=hide (und_grown HU0.out hg (by omega) (by omega))
   clear hy hx hr hq hv ht hg hxp
   cases r with
   | false =>
    have HTK:=hide (show takR up ls l (j+1)=takR up ls l j++[clmR v] from by rw [takR_succ HY.out HV.out,HX.out,HRB.out];rfl)
    go_wp2_with (first|(go_at_call 39;refine (Node21_any HY.out HX.out wr HT.out HU.out (by omega) HFU.out).mono ?_;rintro e101 wN ⟨Ad,nd,kd,Ce,me,de,rfl,-,-,-,-,hbel⟩;replace HG:=hide (HG.out.trans ((grown_below hbel).but (some bM)));replace HT:=hide (HT.out.on hbel);replace HU:=hide (HU.out.under hbel (by omega));have hsz102:=hbel.size;clear hbel)|(go_at_call 23;refine (Redd_b HRB.out hxh.1 hxh.2 wN).mono ?_;rintro e103 wD ⟨rfl,hbel⟩;replace HG:=hide (HG.out.trans ((grown_below hbel).but (some bM)));replace HT:=hide (HT.out.on hbel);replace HU:=hide (HU.out.under hbel (by omega));have hsz104:=hbel.size;clear hbel)|(go_at_call 40;refine (Take_any HQ.out hqi wD HT.out (by omega)).mono ?_;rintro e7 w7 ⟨rfl,ht7,hg7⟩;have HT7:=hide ht7;have HG7:=hide (HG.out.trans hg7);clear ht7 hg7))
    go_roundw
    case rel=>exact ⟨j+1,c1+1,by omega,by omega,by go_num,by rw [HTK.out];exact HT7.out,HG7.out⟩
    case measure=>simp [intOf];omega
   | true =>
    have HTK:=hide (show takR up ls l (j+1)=takR up ls l j from by rw [takR_succ HY.out HV.out,HX.out,HRB.out];rfl)
    go_wp2_with (first|(go_at_call 39;refine (Node21_any HY.out HX.out wr HT.out HU.out (by omega) HFU.out).mono ?_;rintro e101 wN ⟨Ad,nd,kd,Ce,me,de,rfl,-,-,-,-,hbel⟩;replace HG:=hide (HG.out.trans ((grown_below hbel).but (some bM)));replace HT:=hide (HT.out.on hbel);replace HU:=hide (HU.out.under hbel (by omega));have hsz102:=hbel.size;clear hbel)|(go_at_call 23;refine (Redd_b HRB.out hxh.1 hxh.2 wN).mono ?_;rintro e103 wD ⟨rfl,hbel⟩;replace HG:=hide (HG.out.trans ((grown_below hbel).but (some bM)));replace HT:=hide (HT.out.on hbel);replace HU:=hide (HU.out.under hbel (by omega));have hsz104:=hbel.size;clear hbel))
    go_roundw
    case rel=>exact ⟨j+1,c1,by omega,by omega,by go_num,by rw [HTK.out];exact HT.out,HG.out⟩
    case measure=>simp [intOf];omega
  ·obtain rfl:n=j:=by omega
   have hjl:¬((n:Int) < (n:Int)):=by omega
   have hTL:takR up ls l n=(runR up ls l 0).1:=by rw [runR,HLN.out]
   rw [hTL] at ht
   have hb7:=below_new (below_self wr) (.map #[] 0)
   have HT7:=hide (ht.on hb7)
   have HG7:=hide (hg.trans ((grown_below hb7).but (some bM)))
   have HM7:=hide (MapT.made wr)
   have q17:(wr.alloc (.map #[] 0)).cell? ⟨gT,6,none⟩=some (.slice AW n cW):=HT7.out.row.cell 6
   obtain ⟨bT,hbT⟩:∃bT,wr.heap.size=bT:=⟨_,rfl⟩
   have hbTw:w.heap.size≤bT:=by omega
   clear ht hg hb7 hTL
   rw [hbT] at HM7
   have hmm := @run_makeMap Tryz.prog
   go_wp2_with fail
   clear hmm
   try rw [hbT]
   generalize wr.alloc (.map #[] 0)=w7 at *
   go_step3
   go_wp2_with fail
   go_loopw [30] (fun v30 wr=>∃(j c1 c2:Nat),j≤n∧c1≤n+j∧c2≤j∧v30=.int .i64 j∧TrQ wr lo hi gT bM c1 g AU AL AW AC nU cU nL cL n cW cC l cl (takF (runR up ls l j).1)∧MapT wr bT c2 (toldR up ls l j)∧w.grownBy wr (some bM)∧bT < wr.heap.size) (fun v30 _=>n - (intOf v30).toNat)
   case atStart=>exact ⟨0,c1,0,by omega,by omega,by omega,rfl,HT7.out,HM7.out,HG7.out,HM7.out.lt⟩
   case round =>
    obtain ⟨j,c1,c2,hj,hc1,hc2,rfl,ht,hm,hg,hbl⟩:=hrel
    have hgs:=hg.size
    by_cases hlt:j < n
    ·have hjl:(j:Int) < (n:Int):=by omega
     obtain ⟨y,hy⟩:∃y,l[j]?=some y:=⟨_,List.getElem?_eq_getElem (by have:=HLN.out;omega)⟩
     obtain ⟨v,hv⟩:∃v,(treeV up ls l)[j]?=some v:=⟨_,List.getElem?_eq_getElem (by have:=HLN.out;have:=HVN.out;omega)⟩
     have hq:cl[j]?=some (clmR v):=by rw [HCL.out,List.getElem?_map,hv];rfl
     have hqi:=HCI.out _ (List.mem_of_getElem? hq)
     have hyi:=HYI.out y (List.mem_of_getElem? hy)
     obtain ⟨x,hx⟩:∃x,nodAt up y.ino=x:=⟨_,rfl⟩
     have hxp:PlainN x:=by rw [←hx];exact nodAt_plain HFU.out.2 _
     have hxh:=hxp.2.2.1
     obtain ⟨r,hr⟩:∃r,hasR x=r:=⟨_,rfl⟩
     have HY:=hide hy
     have HX:=hide hx
     have HRB:=hide hr
     have HQ:=hide hq
     have HV:=hide hv
     obtain ⟨bW,oW,hAW,hbW,hcy⟩:=way_get ht.ways hy
     have HCY:=hide hcy
     subst hAW
     have HT:=hide ht
     have HM:=hide hm
     have HG:=hide hg
     have HU:=hide (und_grown HU0.out hg (by omega) (by omega))
     clear hy hx hr hq hv ht hm hg hxp hcy hbW
     cases r with
     | false =>
      have HTK:=hide (show (runR up ls l (j+1)).1=(runR up ls l j).1 from by rw [runR_succ HY.out HV.out,HX.out,HRB.out];rfl)
      have HTO:=hide (toldR_no (ls:=ls) HY.out (by rw [HX.out];exact HRB.out))
      go_wp2_with (first|(refine wpList_loadX rfl 75 (.tmp 33) rfl 3 way_agg way_size bW (oW+j*3) rfl (wayC y) HCY.out rfl ?_)|(refine wpList_storeW rfl 75 (.tmp 6) (.tmp 34) rfl 3 way_size (wr.heap.size) 75 rfl [.int .i64 0,.int .i64 0,.string ⟨#[]⟩] (wayC y) rfl (RowL.new wr 75 [.int .i64 0,.int .i64 0,.string ⟨#[]⟩]) rfl rfl (wayC_one _) ?_;intro wS201 hr201 hg201 hs201;have hzb:=below_stored' hg201;replace HG:=hide (HG.out.trans ((grown_below hzb).but (some bM)));replace HT:=hide (HT.out.on hzb);replace HU:=hide (HU.out.under hzb (by omega));replace HM:=hide (HM.out.on hzb);have hsz202:=hzb.size;have R6:=hide hr201;have hlt201:=hr201.lt;have q6_0:wS201.cell? ⟨wr.heap.size,0,none⟩=some (.int .i64 y.ino):=R6.out.cell 0;clear hzb hr201;clear hg201 hs201)|(go_at_call 39;refine (Node21_any HY.out HX.out wS201 HT.out HU.out (by omega) HFU.out).mono ?_;rintro e203 wN ⟨Ad,nd,kd,Ce,me,de,rfl,-,-,-,-,hbel⟩;clear q6_0;replace HG:=hide (HG.out.trans ((grown_below hbel).but (some bM)));replace HT:=hide (HT.out.on hbel);replace HU:=hide (HU.out.under hbel (by omega));replace HM:=hide (HM.out.on hbel);replace R6:=hide (R6.out.on hbel);have hsz204:=hbel.size;have q6_0:wN.cell? ⟨wr.heap.size,0,none⟩=some (.int .i64 y.ino):=R6.out.cell 0;clear hbel)|(go_at_call 23;refine (Redd_b HRB.out hxh.1 hxh.2 wN).mono ?_;rintro e205 wD ⟨rfl,hbel⟩;clear q6_0;replace HG:=hide (HG.out.trans ((grown_below hbel).but (some bM)));replace HT:=hide (HT.out.on hbel);replace HU:=hide (HU.out.under hbel (by omega));replace HM:=hide (HM.out.on hbel);replace R6:=hide (R6.out.on hbel);have hsz206:=hbel.size;have q6_0:wD.cell? ⟨wr.heap.size,0,none⟩=some (.int .i64 y.ino):=R6.out.cell 0;clear hbel))
      go_roundw
      case rel=>exact ⟨j+1,c1,c2,by omega,by omega,by omega,by go_num,by rw [HTK.out];exact HT.out,by rw [HTO.out];exact HM.out,HG.out,by omega⟩
      case measure=>simp [intOf];omega
     | true =>
      obtain ⟨e,he⟩:∃e,(if clR up l v j y=0∧takF (runR up ls l j).1 (clmR v)=true then 12 else clR up l v j y)=e:=⟨_,rfl⟩
      have HE:=hide he
      rw [takF_end] at he
      have hie:i64 e:=by
       have h1:=endR_in (t:=(runR up ls l j).1) (p:=clmR v) (clR_in up l v j y)
       rw [he] at h1
       unfold i64
       omega
      have HTO:=hide (toldR_yes (ls:=ls) HY.out HV.out (by rw [HX.out];exact HRB.out))
      rw [he] at HTO
      have HTK:=hide (show (runR up ls l (j+1)).1=if e=0 then (runR up ls l j).1++[clmR v] else (runR up ls l j).1 from by rw [runR_succ HY.out HV.out,HX.out,HRB.out,if_pos rfl];unfold stepR;simp only;rw [he])
      clear he
      go_wp2_with (first|(refine wpList_loadX rfl 75 (.tmp 33) rfl 3 way_agg way_size bW (oW+j*3) rfl (wayC y) HCY.out rfl ?_)|(refine wpList_storeW rfl 75 (.tmp 6) (.tmp 34) rfl 3 way_size (wr.heap.size) 75 rfl [.int .i64 0,.int .i64 0,.string ⟨#[]⟩] (wayC y) rfl (RowL.new wr 75 [.int .i64 0,.int .i64 0,.string ⟨#[]⟩]) rfl rfl (wayC_one _) ?_;intro wS201 hr201 hg201 hs201;have hzb:=below_stored' hg201;replace HG:=hide (HG.out.trans ((grown_below hzb).but (some bM)));replace HT:=hide (HT.out.on hzb);replace HU:=hide (HU.out.under hzb (by omega));replace HM:=hide (HM.out.on hzb);have hsz202:=hzb.size;have R6:=hide hr201;have hlt201:=hr201.lt;have q6_0:wS201.cell? ⟨wr.heap.size,0,none⟩=some (.int .i64 y.ino):=R6.out.cell 0;clear hzb hr201;clear hg201 hs201)|(go_at_call 39;refine (Node21_any HY.out HX.out wS201 HT.out HU.out (by omega) HFU.out).mono ?_;rintro e203 wN ⟨Ad,nd,kd,Ce,me,de,rfl,-,-,-,-,hbel⟩;clear q6_0;replace HG:=hide (HG.out.trans ((grown_below hbel).but (some bM)));replace HT:=hide (HT.out.on hbel);replace HU:=hide (HU.out.under hbel (by omega));replace HM:=hide (HM.out.on hbel);replace R6:=hide (R6.out.on hbel);have hsz204:=hbel.size;have q6_0:wN.cell? ⟨wr.heap.size,0,none⟩=some (.int .i64 y.ino):=R6.out.cell 0;clear hbel)|(go_at_call 23;refine (Redd_b HRB.out hxh.1 hxh.2 wN).mono ?_;rintro e205 wD ⟨rfl,hbel⟩;clear q6_0;replace HG:=hide (HG.out.trans ((grown_below hbel).but (some bM)));replace HT:=hide (HT.out.on hbel);replace HU:=hide (HU.out.under hbel (by omega));replace HM:=hide (HM.out.on hbel);replace R6:=hide (R6.out.on hbel);have hsz206:=hbel.size;have q6_0:wD.cell? ⟨wr.heap.size,0,none⟩=some (.int .i64 y.ino):=R6.out.cell 0;clear hbel))
      refine wp_region_planL (fun w'=>Below wD.heap.size wD w') [(0,true),(1,true),(2,true),(3,true),(4,true),(5,false)] 6 (by kernel_rfl) (by kernel_rfl) (by kernel_rfl) (by kernel_rfl) (by kernel_rfl) rfl (fun _ _ _ _ _ h=>h) (below_drew (below_self wD)) (fun hHeld=>?_)
      simp only [planOps,List.filterMap_cons,List.filterMap_nil,List.getElem?_toArray,List.getElem?_cons_succ,List.getElem?_cons_zero,Option.map_some]
      iterate 2
       refine wpPlan_take (v:=?_) (by kernel_rfl) (fun wS hSw=>?_) ?_
       rotate_left
       ·(try dsimp only at hSw);go_simp;(try with_reducible rfl)
       (try simp only [Act.put,pu1,pu2,pu3])
      refine wpPlan_take (v:=?_) (by kernel_rfl) (fun wS hSw=>?_) ?_
      rotate_left
      ·have qx:=((R6.out.on hSw).cell 0).trans (show (wayC y)[0]?=some (.int .i64 y.ino) from rfl);go_simp;(try with_reducible rfl)
      (try simp only [Act.put,pu1,pu2,pu3])
      iterate 2
       refine wpPlan_take (v:=?_) (by kernel_rfl) (fun wS hSw=>?_) ?_
       rotate_left
       ·(try dsimp only at hSw);go_simp;(try with_reducible rfl)
       (try simp only [Act.put,pu1,pu2,pu3])
      refine wpPlan_call (by kernel_rfl) (fun K hK=>?_)
      have hOld:=hide hHeld
      clear hHeld
      go_simp
      go_at_call 41
      refine (Clause_e HE.out HY.out HX.out HQ.out rfl rfl hqi rfl (by omega) _ (HT.out.on hOld.out) (HU.out.under hOld.out (by omega)) (by have:=hOld.out.size;omega) HFU.out).mono ?_
      rintro e w' ⟨rfl,hbel⟩
      refine hK.out _ _ (hOld.out.trans (hbel.mono hOld.out.size)) (fun hHeld=>?_)
      clear hK K
      (try simp only [Act.put,pu1,pu2,pu3])
      refine wpPlan_end ?_
      refine postL_go rfl (by kernel_rfl) ?_
      obtain ⟨w5,hrun,hm5,hg5⟩:=(HM.out.on hHeld).put hyi hie (by simp only [maxLen];omega)
      have hsh:=hHeld.size
      have hbMq:=(HT.out.on hHeld).set.lt
      have HT5:=hide ((HT.out.on hHeld).other hg5 (by omega) (by omega) (by omega))
      have HM5:=hide hm5
      have HG5:=hide (grown_new (HG.out.trans ((grown_below hHeld).but (some bM))) hg5 (by omega))
      have R65:=hide ((R6.out.on hHeld).grown hg5 (by intro h;have:=Option.some.inj h;omega))
      have hs5:=hg5.size
      unfold Oper.wp execOp
      go_simp
      have hlk:=HM5.out.look hyi (show (fun i=>if i=y.ino then some e else toldR up ls l j i) y.ino=some e from by simp only [if_pos])
      have q6:w5.cell? ⟨wr.heap.size,0,none⟩=some (.int .i64 y.ino):=R65.out.cell 0
      have HU5:=hide (HU.out.under hHeld (by omega))
      clear hrun hHeld hm5 hg5 HT HM HG HU R6 q6_0
      (try simp only [Act.put])
      by_cases he0:e=0
      ·rw [if_pos he0] at HTK
       have he1:(e==0)=true:=by simp [he0]
       go_wp2_with (first|(go_at_call 40;refine (Take_any HQ.out hqi w5 HT5.out (by omega)).mono ?_;rintro e7 w7 ⟨rfl,ht7,hg7⟩;have HT7:=hide ht7;have HM7:=hide (HM5.out.kept hg7 (by intro h;have:=Option.some.inj h;omega));have HG7:=hide (HG5.out.trans hg7);have hs7:=hg7.size;clear ht7 hg7))
       go_roundw
       case rel=>exact ⟨j+1,c1+1,c2+1,by omega,by omega,by omega,by go_num,by rw [HTK.out];exact HT7.out,by rw [HTO.out];exact HM7.out,HG7.out,by omega⟩
       case measure=>simp [intOf];omega
      ·rw [if_neg he0] at HTK
       have he1:(e==0)=false:=by simp [he0]
       go_wp2_with fail
       go_roundw
       case rel=>exact ⟨j+1,c1,c2+1,by omega,by omega,by omega,by go_num,by rw [HTK.out];exact HT5.out,by rw [HTO.out];exact HM5.out,HG5.out,by omega⟩
       case measure=>simp [intOf];omega
    ·obtain rfl:n=j:=by omega
     have hjl:¬((n:Int) < (n:Int)):=by omega
     have HMO:=hide (show MapT wr bT c2 (toldR up ls l l.length) from by rw [HLN.out];exact hm)
     have HGO:=hide hg
     clear ht hm hg
     go_wp2_with fail
     go_ret
     exact ⟨bT,c2,rfl,hbTw,HMO.out,HGO.out⟩
end Go.Proofs.YtnhegahpfacdgaaGreat

namespace Go.Proofs.YtnhegahpfacdgaaGreat
open Go.RowKit Go.Shelf Plain Go.Maps

set_option maxRecDepth 100000 in
set_option maxHeartbeats 8000000 in
theorem Claims21_any {g:GeoQ} {AU AL:Option Addr} {nU cU nL cL B:Nat} {up:List NodV} {ls:List (List NodV)} {l:List WayV} {TV:List ViewV} {n:Nat} (hl:(walkW up [1]).1=l) (hT:treeV up ls l=TV) (hn:l.length=n) (w:World) (hu:RdE nodEn w (Under B) AU nU up) (h:RdE layEn w (Under B) AL nL ls) (hB:B≤w.heap.size) (hF:FewL ls) (hup:FewU up):Calls Tryz.prog 10 #[.agg (stkC g (.slice AU nU cU) (.slice AL nL cL)).toArray] w (fun e w'=>∃A c,e=.returned (.slice A n c)∧RdE prEn w' (Under w'.heap.size) A n (TV.map clmR)∧Below w.heap.size w w'):=by
 obtain ⟨W1,hW1⟩:∃W1,(w.alloc (.cells (stkC g (.slice AU nU cU) (.slice AL nL cL)).toArray 29))=W1:=⟨_,rfl⟩
 obtain ⟨r0,hb1,hs1⟩:=rowA1 w _ _ hW1
 have hW1':(w.alloc (.cells #[.int .i64 g.a,.int .i64 g.b,.int .i64 g.c,.int .i64 g.d,.slice AU nU cU,.slice AL nL cL] 29))=W1:=hW1
 have R1:=hide r0
 have HB:=hide hb1
 have hsz0:=hb1.size
 have HU:=hide (hu.under hb1 hB)
 have HL:=hide (h.under hb1 hB)
 have HF:=hide hF
 have HFU:=hide hup
 have HWS:=hide hl
 have HT:=hide hT
 have HN:=hide hn
 unfold stkC
 clear r0 hb1 hW1 hu h hF hup hl hT hn
 go_enter Tryz.func10,Tryz.ntmps10
 go_wp2_with (first|(refine wpList_loadW rfl 29 (.tmp 1) rfl 6 stk_agg stk_size (w.heap.size) 29 rfl [.int .i64 g.a,.int .i64 g.b,.int .i64 g.c,.int .i64 g.d,.slice AU nU cU,.slice AL nL cL] R1.out rfl ?_)|(go_at_call 20;refine (RBegin_any HWS.out HT.out HN.out W1 HU.out HL.out (by omega) HF.out HFU.out).mono ?_;rintro e1 wB ⟨gT,bM,cM,AW,AC,cW,cC,hi,rfl,ht,hcM,hbel⟩;have HT1:=hide ht;replace HB:=hide (HB.out.trans (hbel.mono (by omega)));have q7:wB.cell? ⟨gT,7,none⟩=some (.slice AC n cC):=HT1.out.row.cell 7;clear ht hbel))
 go_ret
 exact ⟨AC,cC,rfl,HT1.out.clms.mono (fun _ _=>rfl) (fun b hb=>Nat.lt_of_lt_of_le hb.2.1 HT1.out.hiw),HB.out⟩
theorem takF_nil:takF []=fun _=>false:=by
 funext p
 simp [takF]
set_option maxRecDepth 100000 in
set_option maxHeartbeats 16000000 in
theorem RFinds21_any {g:GeoQ} {AU AL:Option Addr} {nU cU nL cL B:Nat} {up:List NodV} {ls:List (List NodV)} {l:List WayV} {rs:List Bool} (hl:(walkW up [1]).1=l) (hrs:reachL up l=rs) (w:World) (hu:RdE nodEn w (Under B) AU nU up) (h:RdE layEn w (Under B) AL nL ls) (hB:B≤w.heap.size) (hF:FewL ls) (hup:FewU up):Calls Tryz.prog 7 #[.agg (stkC g (.slice AU nU cU) (.slice AL nL cL)).toArray] w (FinsO w (findR up rs l (runR up ls l l.length).2 up.length)):=by
 obtain ⟨W1,hW1⟩:∃W1,(w.alloc (.cells (stkC g (.slice AU nU cU) (.slice AL nL cL)).toArray 29))=W1:=⟨_,rfl⟩
 obtain ⟨r0,hb1,hs1⟩:=rowA1 w _ _ hW1
 have hW1':(w.alloc (.cells #[.int .i64 g.a,.int .i64 g.b,.int .i64 g.c,.int .i64 g.d,.slice AU nU cU,.slice AL nL cL] 29))=W1:=hW1
 have R1:=hide r0
 have HB:=hide hb1
 have hsz0:=hb1.size
 have HU:=hide (hu.under hb1 hB)
 have HL:=hide (h.under hb1 hB)
 have HF:=hide hF
 have HFU:=hide hup
 have HWS:=hide hl
 obtain ⟨TV,hT⟩:∃TV,treeV up ls l=TV:=⟨_,rfl⟩
 obtain ⟨n,hn⟩:∃n,l.length=n:=⟨_,rfl⟩
 have HT:=hide hT
 have HN:=hide hn
 have hn24:n≤24:=by
  have h1:=(walk_ok up [1]).le
  rw [hl] at h1
  have h2:=hup.1
  omega
 have hokw:=walk_ok up [1]
 have hlw:=hokw.le
 rw [hl] at hokw hlw
 have HND:=hide hokw.2
 have hu24:=hup.1
 have HYI:=hide (show ∀y∈l,i64 y.ino from fun y hy=>by have h1:=isDir_in (hokw.1 y hy);unfold i64;omega)
 have HCI:=hide (show ∀q∈TV.map clmR,i64 q.1∧i64 q.2 from fun q hq=>by obtain ⟨v,hv,rfl⟩:=List.mem_map.1 hq;exact clm_i64 (tree_pos up hF l v (by rw [hT];exact hv)))
 have HRS:=hide (show reachL up (walkW up [1]).1=rs from by rw [hl];exact hrs)
 have hrl:rs.length=up.length:=by rw [←hrs,reachL_len]
 unfold stkC
 clear r0 hb1 hW1 hu h hF hup hl hrs hokw hT hn
 have hlit1:=fun W=>lit_one W
 go_enter Tryz.func7,Tryz.ntmps7
 go_wp2_with fail
 go_step3
 go_wp2_with (first|(refine wpList_loadW rfl 29 (.tmp 1) rfl 6 stk_agg stk_size (w.heap.size) 29 rfl [.int .i64 g.a,.int .i64 g.b,.int .i64 g.c,.int .i64 g.d,.slice AU nU cU,.slice AL nL cL] R1.out rfl ?_)|(go_at_call 20;refine (RBegin_any HWS.out HT.out HN.out W1 HU.out HL.out (by omega) HF.out HFU.out).mono ?_;rintro e1 wB ⟨gT,bM,cM,AW,AC,cW,cC,hi,rfl,ht,hcM,hbel⟩;have HT1:=hide ht;replace HB:=hide (HB.out.trans (hbel.mono (by omega)));replace R1:=hide (R1.out.on hbel);replace HU:=hide (HU.out.under hbel (by omega));have hszB:=hbel.size;clear ht hbel)|(go_at_call 21;refine (RClauses_any (B:=B) (lo:=W1.heap.size) (n:=n) (by rw [HT.out]) HCI.out HYI.out hn24 hcM (by omega) wB (by rw [takF_nil];exact HT1.out) HU.out (by omega) HFU.out).mono ?_;rintro e2 w3 ⟨bT,cT,rfl,hbT,hm,hg⟩;have hbMl:=HT1.out.lbM;have HM:=hide hm;replace HB:=hide (HB.out.grown hg HB.out.size (pu4 (by omega)));replace R1:=hide (R1.out.grown hg (by intro e;have:=Option.some.inj e;omega));replace HU:=hide (und_grown HU.out hg (by omega) (by omega));have hsz3:=hg.size;have q1_4:w3.cell? ⟨w.heap.size,4,none⟩=some (.slice AU nU cU):=R1.out.cell 4;clear hm hg HT1))
 go_step3
 clear HT HN HCI HYI HL HF
 go_wp2_with (first|(refine wpList_loadC rfl 26 (.tmp 13) rfl 1 lay_agg lay_size (w.heap.size) 4 29 rfl (stkC g (.slice AU nU cU) (.slice AL nL cL)) [.slice AU nU cU] R1.out rfl rfl ?_)|(go_at_call 22;refine (OReach_any HRS.out _ (und_up (HU.out.under (below_new (below_self w3) (.cells #[.int .i64 1] 3)) (by omega)) (by simp;omega)) (one_row (RowL.new w3 3 [.int .i64 1])) (plain_many HFU.out.1 HFU.out.2).1).mono ?_;rintro e5 wT ⟨AR,nR,cR,lo,hi,rfl,hlo,hr5,hbel0⟩;have hbel:Below w3.heap.size w3 wT:=(below_new (below_self w3) (.cells #[.int .i64 1] 3)).trans (hbel0.mono (by simp));have HRD:=hide (rch_rd hr5);replace HB:=hide (HB.out.trans (hbel.mono HB.out.size));replace R1:=hide (R1.out.on hbel);replace HU:=hide (HU.out.under hbel (by omega));replace HM:=hide (HM.out.on hbel);have hszT:=hbel.size;clear hr5 hbel hbel0 hlo q1_4))
 have hnR:nR=nU:=by have h1:=HRD.out.1;have h2:=HU.out.1;omega
 subst hnR
 have hul:up.length=nR:=HU.out.1
 clear hrl
 obtain ⟨O,hO⟩:∃O,(runR up ls l l.length).2=O:=⟨_,rfl⟩
 have HTD:=hide (fun (i:Int) (h:hasR (nodAt up i)=true)=>show (toldR up ls l l.length i).getD 9=ofR l O i from by rw [←hO];exact told_or HND.out h)
 have HIN:=hide (fun (i:Int)=>show ofR l O i=0∨9≤ofR l O i∧ofR l O i≤12 from ofR_in (by rw [←hO];exact runR_in _) i)
 rw [hO]
 go_loopw [4,18] (fun v4 v18 wr=>∃(i n6:Nat) (A6:Option Addr) (c6:Nat),i≤nR∧v18=.int .i64 i∧v4=.slice A6 n6 c6∧n6≤i∧OwE finEn wr wT.heap.size 36 A6 n6 c6 (findR up rs l O i)∧Below wT.heap.size wT wr) (fun _ v18 _=>nR - (intOf v18).toNat)
 case atStart=>exact ⟨0,0,none,0,by omega,rfl,rfl,by omega,OwE.nil_ _ _ _ _,Below.refl _ _⟩
 case round =>
  obtain ⟨i,n6,A6,c6,hi,rfl,rfl,hn6,ho,hbr⟩:=hrel
  have hbsz:=hbr.size
  have HBQ:=hide hbr
  have HO2:=hide ho
  replace R1:=hide (R1.out.on hbr)
  replace HU:=hide (HU.out.under hbr (by omega))
  replace HM:=hide (HM.out.on hbr)
  replace HRD:=hide ((HRD.out.below hbr).more (by omega))
  clear ho hbr
  by_cases hlt:i < nR
  ·obtain ⟨x,hx⟩:∃x,up[i]?=some x:=⟨_,List.getElem?_eq_getElem (by omega)⟩
   obtain ⟨r,hri⟩:∃r,rs[i]?=some r:=⟨_,List.getElem?_eq_getElem (by have:=HRD.out.1;omega)⟩
   have hxp:PlainN x:=HFU.out.2 x (List.mem_of_getElem? hx)
   have hxh:=hxp.2.2.1
   have hxa:nodAt up ((i:Int)+1)=x:=nodAt_get hx
   obtain ⟨hr,hhr⟩:∃hr,hasR x=hr:=⟨_,rfl⟩
   have HRB:=hide hhr
   have HTS:=hide (findR_succ up rs l O i)
   have HTO:=hide (oneR_is (l:=l) (out:=O) hx hri)
   obtain ⟨bU,oU,A0,n0,k0,C0,m0,d0,rfl,hbU,hcx⟩:=nod_cells HU.out hx
   have HCX:=hide hcx
   obtain ⟨bR,oR,rfl⟩:=rd_some HRD.out (by omega)
   have qb:=rd_cell HRD.out hri
   have hin:(i:Int) < (nR:Int):=by omega
   have hw1:IntKind.i64.wrap ((i:Int)+1)=(i:Int)+1:=IntWalk.i64_in _ (by omega)
   have HXA:=hide hxa
   have qn0:wr.cell? ⟨bU,oU+i*13,none⟩=_:=hcx 0 _ rfl
   have qn1:wr.cell? ⟨bU,oU+i*13+1,none⟩=_:=hcx 1 _ rfl
   have qn2:wr.cell? ⟨bU,oU+i*13+2,none⟩=_:=hcx 2 _ rfl
   have qn3:wr.cell? ⟨bU,oU+i*13+3,none⟩=_:=hcx 3 _ rfl
   have qn4:wr.cell? ⟨bU,oU+i*13+4,none⟩=_:=hcx 4 _ rfl
   have qn5:wr.cell? ⟨bU,oU+i*13+5,none⟩=_:=hcx 5 _ rfl
   have qn6:wr.cell? ⟨bU,oU+i*13+6,none⟩=_:=hcx 6 _ rfl
   have qn7:wr.cell? ⟨bU,oU+i*13+7,none⟩=_:=hcx 7 _ rfl
   have qn8:wr.cell? ⟨bU,oU+i*13+8,none⟩=_:=hcx 8 _ rfl
   have qn9:wr.cell? ⟨bU,oU+i*13+9,none⟩=_:=hcx 9 _ rfl
   have qn10:wr.cell? ⟨bU,oU+i*13+10,none⟩=_:=hcx 10 _ rfl
   have qn11:wr.cell? ⟨bU,oU+i*13+11,none⟩=_:=hcx 11 _ rfl
   have qn12:wr.cell? ⟨bU,oU+i*13+12,none⟩=_:=hcx 12 _ rfl
   clear hcx hx hri hbU hxp hxa hhr
   have q1_4:wr.cell? ⟨w.heap.size,4,none⟩=some (.slice (some ⟨bU,oU,none⟩) nR cU):=R1.out.cell 4
   cases r with
   | false =>
    have HTN:=hide (show oneR up rs l O i=[] from by rw [HTO.out,if_neg (by simp)])
    go_wp2_with fail
    go_roundw
    case rel=>exact ⟨i+1,n6,A6,c6,by omega,by go_num,rfl,by omega,by rw [HTS.out,HTN.out,List.append_nil];exact HO2.out,HBQ.out⟩
    case measure=>simp [intOf];omega
   | true =>
    cases hr with
    | false =>
     have HTN:=hide (show oneR up rs l O i=[] from by rw [HTO.out,if_neg (by rw [HRB.out];simp)])
     go_wp2_with (first|(go_at_call 23;refine (Redd_b HRB.out hxh.1 hxh.2 wr).mono ?_;rintro e121 wD ⟨rfl,hbel⟩;clear q1_4;replace HBQ:=hide (HBQ.out.trans (hbel.mono (by omega)));replace R1:=hide (R1.out.on hbel);replace HU:=hide (HU.out.under hbel (by omega));replace HM:=hide (HM.out.on hbel);replace HO2:=hide (HO2.out.below hbel);have hsz122:=hbel.size;have q1_4:wD.cell? ⟨w.heap.size,4,none⟩=some (.slice (some ⟨bU,oU,none⟩) nR cU):=R1.out.cell 4;clear hbel))
     go_roundw
     case rel=>exact ⟨i+1,n6,A6,c6,by omega,by go_num,rfl,by omega,by rw [HTS.out,HTN.out,List.append_nil];exact HO2.out,HBQ.out⟩
     case measure=>simp [intOf];omega
    | true =>
     have HTDi:=hide (HTD.out ((i:Int)+1) (by rw [HXA.out];exact HRB.out))
     have HTN0:=hide (show oneR up rs l O i=if ofR l O ((i:Int)+1)≠0 then [⟨ofR l O ((i:Int)+1),0,(i:Int)+1,-1⟩] else [] from by rw [HTO.out,HRB.out];simp)
     go_upto_region 8 with (first|(go_at_call 23;refine (Redd_b HRB.out hxh.1 hxh.2 wr).mono ?_;rintro e121 wD ⟨rfl,hbel⟩;clear q1_4;replace HBQ:=hide (HBQ.out.trans (hbel.mono (by omega)));replace R1:=hide (R1.out.on hbel);replace HU:=hide (HU.out.under hbel (by omega));replace HM:=hide (HM.out.on hbel);replace HO2:=hide (HO2.out.below hbel);have hsz122:=hbel.size;have q1_4:wD.cell? ⟨w.heap.size,4,none⟩=some (.slice (some ⟨bU,oU,none⟩) nR cU):=R1.out.cell 4;clear hbel))
     obtain ⟨v,hlk,hvx⟩:=HM.out.look_ok (n:=(i:Int)+1) (by unfold i64;omega)
     have HVX:=hide hvx
     clear hvx
     obtain ⟨o,ho⟩:∃o,toldR up ls l l.length ((i:Int)+1)=o:=⟨_,rfl⟩
     rw [ho] at HTDi hlk HVX
     clear ho
     cases o with
     | none =>
      have h9:=HTDi.out
      rw [Option.getD_none] at h9
      have HTN:=hide (show oneR up rs l O i=[⟨9,0,(i:Int)+1,-1⟩] from by rw [HTN0.out,←h9];rfl)
      have hlit:=fun W=>litW_fin 9 0 ((i:Int)+1) (-1) W
      clear h9
      rw [Option.isSome_none] at hlk
      go_wp2_with (first|(at_builtin;have hba:=below_new (below_self wD) (.cells #[.int .i64 9,.int .i64 0,.int .i64 ((i:Int)+1),.int .i64 (-1)] 36);refine wpList_append_OwE (E:=finEn) _ rfl (.tmp 47) (.tmp 51) 34 rfl wT.heap.size 36 (.agg #[.int .i64 0,.int .i64 0,.int .i64 0,.int .i64 0]) 32 Tryz.underlying34 finW_info rfl (by decide) A6 n6 c6 _ rfl (HO2.out.below hba) (fun b=>wD.heap.size≤b∧b < (wD.alloc (.cells (finC ⟨9,0,(i:Int)+1,-1⟩).toArray 36)).heap.size) (some ⟨wD.heap.size,0,none⟩) 1 1 [⟨9,0,(i:Int)+1,-1⟩] rfl (enc_lit1 (OFin_R ⟨9,0,(i:Int)+1,-1⟩) wD 36 (Nat.le_refl _)) (fun b hb=>⟨⟨hb.2,fun _ _ _ _=>rfl⟩,fun a ha=>(fun e=>by have h1:=hb.1;rw [e] at h1;have:=OwE.lt HO2.out a ha;omega)⟩) (n6+1) rfl (by omega) (by omega) (by simp;omega) ?_;intro A9 c9 w9 ho9 hb9;have HO9:=hide ho9;have HB9:=hide ((HBQ.out.alloc (by omega) _).trans hb9);clear ho9 hb9 hba))
      go_roundw
      case rel=>exact ⟨i+1,n6+1,A9,c9,by omega,by go_num,rfl,by omega,by rw [HTS.out,HTN.out];exact HO9.out,HB9.out⟩
      case measure=>simp [intOf];omega
     | some c =>
      obtain rfl:v=c:=HVX.out c rfl
      have h9:=HTDi.out
      rw [Option.getD_some] at h9
      rw [Option.isSome_some] at hlk
      rw [←h9] at HTN0
      by_cases hv0:v=0
      ·have HTN:=hide (show oneR up rs l O i=[] from by rw [HTN0.out,if_neg (by simp [hv0])])
       have hv1:(v==0)=true:=by simp [hv0]
       clear h9
       go_wp2_with fail
       go_roundw
       case rel=>exact ⟨i+1,n6,A6,c6,by omega,by go_num,rfl,by omega,by rw [HTS.out,HTN.out,List.append_nil];exact HO2.out,HBQ.out⟩
       case measure=>simp [intOf];omega
      ·have HTN:=hide (show oneR up rs l O i=[⟨v,0,(i:Int)+1,-1⟩] from by rw [HTN0.out,if_pos hv0])
       have hlit:=fun W=>litW_fin v 0 ((i:Int)+1) (-1) W
       have hv1:(v==0)=false:=by simp [hv0]
       clear h9
       go_wp2_with (first|(at_builtin;have hba:=below_new (below_self wD) (.cells #[.int .i64 v,.int .i64 0,.int .i64 ((i:Int)+1),.int .i64 (-1)] 36);refine wpList_append_OwE (E:=finEn) _ rfl (.tmp 47) (.tmp 51) 34 rfl wT.heap.size 36 (.agg #[.int .i64 0,.int .i64 0,.int .i64 0,.int .i64 0]) 32 Tryz.underlying34 finW_info rfl (by decide) A6 n6 c6 _ rfl (HO2.out.below hba) (fun b=>wD.heap.size≤b∧b < (wD.alloc (.cells (finC ⟨v,0,(i:Int)+1,-1⟩).toArray 36)).heap.size) (some ⟨wD.heap.size,0,none⟩) 1 1 [⟨v,0,(i:Int)+1,-1⟩] rfl (enc_lit1 (OFin_R ⟨v,0,(i:Int)+1,-1⟩) wD 36 (Nat.le_refl _)) (fun b hb=>⟨⟨hb.2,fun _ _ _ _=>rfl⟩,fun a ha=>(fun e=>by have h1:=hb.1;rw [e] at h1;have:=OwE.lt HO2.out a ha;omega)⟩) (n6+1) rfl (by omega) (by omega) (by simp;omega) ?_;intro A9 c9 w9 ho9 hb9;have HO9:=hide ho9;have HB9:=hide ((HBQ.out.alloc (by omega) _).trans hb9);clear ho9 hb9 hba))
       go_roundw
       case rel=>exact ⟨i+1,n6+1,A9,c9,by omega,by go_num,rfl,by omega,by rw [HTS.out,HTN.out];exact HO9.out,HB9.out⟩
       case measure=>simp [intOf];omega
  ·obtain rfl:nR=i:=by omega
   have hnlt:¬((nR:Int) < (nR:Int)):=by omega
   go_wp2_with fail
   go_ret
   have ho:=(HO2.out.rd rfl).plain
   exact ⟨A6,n6,c6,rfl,by first|exact ho|(rw [hul];exact ho),HB.out.trans (HBQ.out.mono (by have:=HB.out.size;omega))⟩
end Go.Proofs.YtnhegahpfacdgaaGreat

