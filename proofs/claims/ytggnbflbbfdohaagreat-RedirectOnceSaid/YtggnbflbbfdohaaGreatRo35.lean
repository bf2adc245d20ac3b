import Derived.Test.YtggnbflbbfdohaaGreatRo34

namespace Go.Proofs.YtggnbflbbfdohaaGreat
open Go.RowKit Go.Shelf Plain Go.Maps

def toldR (up : List NodV) (ls : List (List NodV)) (l : List WayV) : Nat → Int → Option Int
 | 0,_=>none
 | k+1,i=>match l[k]?,(runR up ls l (k+1)).2[k]? with
  | some y,some c=>if hasR (nodAt up y.ino)=true then (if i=y.ino then some c else toldR up ls l k i) else toldR up ls l k i
  | _,_=>toldR up ls l k i
theorem toldR_no {up:List NodV} {ls:List (List NodV)} {l:List WayV} {k:Nat} {y:WayV} (hy:l[k]?=some y) (h:hasR (nodAt up y.ino)=false):toldR up ls l (k+1)=toldR up ls l k:=by
 funext i
 rw [toldR,hy]
 split
 ·rename_i y2 c e _
  obtain rfl:=Option.some.inj e
  rw [if_neg (by simp [h])]
 ·rfl
theorem toldR_yes {up:List NodV} {ls:List (List NodV)} {l:List WayV} {k:Nat} {y:WayV} {v:ViewV} (hy:l[k]?=some y) (hv:(treeV up ls l)[k]?=some v) (h:hasR (nodAt up y.ino)=true):toldR up ls l (k+1)=fun i=>if i=y.ino then some (endR (runR up ls l k).1 (clR up l v k y) (clmR v)) else toldR up ls l k i:=by
 funext i
 have hk:=(List.getElem?_eq_some_iff.1 hy).1
 have h1:(runR up ls l (k+1)).2[k]?=some (endR (runR up ls l k).1 (clR up l v k y) (clmR v)):=by
  rw [runR_succ hy hv,if_pos h]
  unfold stepR
  simp only
  rw [List.getElem?_append_right (by rw [runR_len k (by omega)];omega),runR_len k (by omega),Nat.sub_self]
  rfl
 rw [toldR,hy,h1]
 simp only [h,if_pos]
theorem run_out {up:List NodV} {ls:List (List NodV)} {l:List WayV} {k j:Nat} (hk:k≤j) (hj:j≤l.length):(runR up ls l k).2 <+: (runR up ls l j).2:=by
 induction j with
 | zero =>
  obtain rfl : k = 0 := by omega
  exact List.prefix_refl _
 | succ j ih =>
  rcases Nat.lt_or_ge k (j+1) with h|h
  ·exact (ih (by omega) (by omega)).trans (runR_pre j)
  ·obtain rfl:k=j+1:=by omega
   exact List.prefix_refl _
theorem toldR_all {up : List NodV} {ls : List (List NodV)} {l : List WayV} (hn : (l.map WayV.ino).Nodup) : ∀ k, k ≤ l.length → ∀ j y, j < k → l[j]? = some y → hasR (nodAt up y.ino) = true → toldR up ls l k y.ino = (runR up ls l l.length).2[j]?
 | 0,_,j,y,hj,_,_=>absurd hj (by omega)
 | k+1,hk,j,y,hj,hy,hR=>by
  obtain ⟨y2,hy2⟩:∃y2,l[k]?=some y2:=⟨_,List.getElem?_eq_getElem (by omega)⟩
  have h2:(treeV up ls l).length=l.length:=tree_len up ls l
  obtain ⟨v,hv⟩:∃v,(treeV up ls l)[k]?=some v:=⟨_,List.getElem?_eq_getElem (by omega)⟩
  rcases Nat.lt_or_ge j k with h|h
  ·have hne:y.ino≠y2.ino:=fun e=>by have:=nodup_get hn hy hy2 e;omega
   have ih:=toldR_all (up:=up) (ls:=ls) hn k (by omega) j y h hy hR
   cases h3:hasR (nodAt up y2.ino) with
   | false=>rw [toldR_no hy2 h3];exact ih
   | true=>rw [toldR_yes hy2 hv h3];simp only [if_neg hne];exact ih
  ·obtain rfl:j=k:=by omega
   rw [hy] at hy2
   obtain rfl:=Option.some.inj hy2
   rw [toldR_yes hy hv hR]
   simp only [if_pos]
   obtain ⟨t,ht⟩:=run_out (up:=up) (ls:=ls) (l:=l) (k:=j+1) (j:=l.length) hk (Nat.le_refl _)
   rw [←ht,List.getElem?_append_left (by rw [runR_len _ hk];omega),runR_succ hy hv,if_pos hR]
   unfold stepR
   simp only
   rw [List.getElem?_append_right (by rw [runR_len j (by omega)];omega),runR_len j (by omega),Nat.sub_self]
   rfl
theorem toldR_none {up : List NodV} {ls : List (List NodV)} {l : List WayV} {i : Int} (h : ∀ y ∈ l, y.ino ≠ i) : ∀ k, toldR up ls l k i = none
 | 0=>rfl
 | k+1=>by
  unfold toldR
  split
  ·rename_i y c hy _
   have h1:=h y (List.mem_of_getElem? hy)
   split
   ·rw [if_neg (fun e=>h1 e.symm)];exact toldR_none h k
   ·exact toldR_none h k
  ·exact toldR_none h k
theorem told_or {up:List NodV} {ls:List (List NodV)} {l:List WayV} (hn:(l.map WayV.ino).Nodup) {i:Int} (hR:hasR (nodAt up i)=true):(toldR up ls l l.length i).getD 9=ofR l (runR up ls l l.length).2 i:=by
 by_cases h:∃y∈l,y.ino=i
 ·obtain ⟨y,hy,rfl⟩:=h
  obtain ⟨j,hj⟩:=List.mem_iff_getElem?.1 hy
  have hjl:=(List.getElem?_eq_some_iff.1 hj).1
  obtain ⟨c,hc⟩:∃c,(runR up ls l l.length).2[j]?=some c:=⟨_,List.getElem?_eq_getElem (by rw [runR_len _ (Nat.le_refl _)];exact hjl)⟩
  rw [toldR_all hn l.length (Nat.le_refl _) j y hjl hj hR,hc,ofR_some hn hj hc]
  rfl
 ·have h2:∀y∈l,y.ino≠i:=fun y hy e=>h ⟨y,hy,e⟩
  rw [toldR_none h2,ofR_none h2]
  rfl
theorem takF_end (t:List (Int×Int)) (c:Int) (p:Int×Int):(if c=0∧takF t p=true then 12 else c)=endR t c p:=by
 unfold endR takF
 by_cases h1:c=0 <;> by_cases h2:p=(0,0) <;> by_cases h3:p∈t <;> simp [h1,h2,h3]
theorem TrQ.other {w w':World} {lo hi gT bM cM k:Nat} {g:GeoQ} {AU AL AW AC:Option Addr} {nU cU nL cL n cW cC:Nat} {l:List WayV} {cl:List (Int×Int)} {f:Int×Int→Bool} (h:TrQ w lo hi gT bM cM g AU AL AW AC nU cU nL cL n cW cC l cl f) (hg:w.grownBy w' (some k)) (h1:hi≤k) (h2:gT≠k) (h3:bM≠k):TrQ w' lo hi gT bM cM g AU AL AW AC nU cU nL cL n cW cC l cl f :=
 ⟨h.row.grown hg (fun e=>h2 (Option.some.inj e)),h.ways.mono (fun b hb=>hg.block b (Nat.lt_of_lt_of_le hb.2.1 h.hiw) (fun e=>by have h4:=hb.2.1;have h5:b=k:=Option.some.inj e;omega)) (fun _ h=>h),h.clms.mono (fun b hb=>hg.block b (Nat.lt_of_lt_of_le hb.2.1 h.hiw) (fun e=>by have h4:=hb.2.1;have h5:b=k:=Option.some.inj e;omega)) (fun _ h=>h),h.set.kept hg (fun e=>h3 (Option.some.inj e)),h.lgT,h.lbM,h.ne,Nat.le_trans h.hiw hg.size⟩
theorem grown_new {a b c:World} {row:Option Nat} {k:Nat} (h:a.grownBy b row) (h2:b.grownBy c (some k)) (hk:a.heap.size≤k):a.grownBy c row :=
 ⟨h2.os.trans h.os,h2.tape.trans h.tape,h2.output.trans h.output,Nat.le_trans h.size h2.size,fun i hi hne=>(h2.block i (Nat.lt_of_lt_of_le hi h.size) (fun e=>by have h5:i=k:=Option.some.inj e;omega)).trans (h.block i hi hne)⟩
theorem Clause_e {g:GeoQ} {AU AL AW AC:Option Addr} {nU cU nL cL n cW cC B lo hi gT bM cM:Nat} {up:List NodV} {l:List WayV} {cl:List (Int×Int)} {f:Int×Int→Bool} {i:Nat} {v:ViewV} {y:WayV} {x:NodV} {q:Int×Int} {c0 e:Int} {ft:Bool} (he:(if c0=0∧ft=true then 12 else c0)=e) (hy:l[i]?=some y) (hx:nodAt up y.ino=x) (hq:cl[i]?=some q) (hv:clmR v=q) (hc0:clR up l v i y=c0) (hqi:i64 q.1∧i64 q.2) (hft:f q=ft) (hn:n≤24) (w:World) (ht:TrQ w lo hi gT bM cM g AU AL AW AC nU cU nL cL n cW cC l cl f) (hu:RdE nodEn w (Under B) AU nU up) (hB:B≤w.heap.size) (hup:FewU up):Calls Tryz.prog 86 #[.pointer (some ⟨gT,0,none⟩),.int .i64 i] w (fun z w'=>z=.returned (.int .i64 e)∧Below w.heap.size w w'):=by
 subst he
 exact Clause_any hy hx hq hv hc0 hqi hft hn w ht hu hB hup
set_option maxRecDepth 100000 in
set_option maxHeartbeats 16000000 in
theorem RClauses_any {g:GeoQ} {AU AL AW AC:Option Addr} {nU cU nL cL n cW cC B lo hi gT bM cM:Nat} {up:List NodV} {l:List WayV} {cl:List (Int×Int)} {ls:List (List NodV)} (hcl:cl=(treeV up ls l).map clmR) (hci:∀q∈cl,i64 q.1∧i64 q.2) (hyi:∀y∈l,i64 y.ino) (hn:n≤24) (hc0:cM=0) (hlo:B≤lo) (w:World) (ht:TrQ w lo hi gT bM cM g AU AL AW AC nU cU nL cL n cW cC l cl (takF [])) (hu:RdE nodEn w (Under B) AU nU up) (hB:B≤w.heap.size) (hup:FewU up):Calls Tryz.prog 50 #[.pointer (some ⟨gT,0,none⟩)] w (fun e w'=>∃bT cT,e=.returned (.map (some bT))∧w.heap.size≤bT∧MapT w' bT cT (toldR up ls l l.length)∧w.grownBy w' (some bM)):=by
 have HCL:=hide hcl
 have HCI:=hide hci
 have HYI:=hide hyi
 have HFU:=hide hup
 have HT0:=hide ht
 have HU0:=hide hu
 have HLN:=hide (show l.length=n from ht.ways.1)
 have HVN:=hide (tree_len up ls l)
 have hbMl:=ht.lbM
 have hgTl:=ht.row.lt
 have hbMw:=ht.set.lt
 have hhi:=ht.hiw
 have q1:w.cell? ⟨gT,6,none⟩=some (.slice AW n cW):=ht.row.cell 6
 subst hc0
 clear hcl hci hyi hup ht hu
 go_enter Tryz.func50,Tryz.ntmps50
 go_wp2_with fail
 go_step3
 go_wp2_with fail
 go_loopw [12] (fun v12 wr=>∃(j c1:Nat),j≤n∧c1≤j∧v12=.int .i64 j∧TrQ wr lo hi gT bM c1 g AU AL AW AC nU cU nL cL n cW cC l cl (takF (takR up ls l j))∧w.grownBy wr (some bM)) (fun v12 _=>n - (intOf v12).toNat)
 case atStart=>exact ⟨0,0,by omega,by omega,rfl,HT0.out,World.grownBy.refl _ _⟩
 case round =>
  obtain ⟨j,c1,hj,hc1,rfl,ht,hg⟩:=hrel
  have hgs:=hg.size
  by_cases hlt:j < n
  ·have hjl:(j:Int) < (n:Int):=by omega
   obtain ⟨y,hy⟩:∃y,l[j]?=some y:=⟨_,List.getElem?_eq_getElem (by have:=HLN.out;omega)⟩
   obtain ⟨v,hv⟩:∃v,(treeV up ls l)[j]?=some v:=⟨_,List.getElem?_eq_getElem (by have:=HLN.out;have:=HVN.out;omega)⟩
   have hq:cl[j]?=some (clmR v):=by rw [HCL.out,List.getElem?_map,hv];rfl
   have hqi:=HCI.out _ (List.mem_of_getElem? hq)
   have hyi:=HYI.out y (List.mem_of_getElem? hy)
   obtain ⟨x,hx⟩:∃x,nodAt up y.ino=x:=⟨_,rfl⟩
   have hxp:PlainN x:=by rw [←hx];exact nodAt_plain HFU.out.2 _
   have hxh:=hxp.2.2.1
   obtain ⟨r,hr⟩:∃r,hasR x=r:=⟨_,rfl⟩
   have HY:=hide hy
   have HX:=hide hx
   have HRB:=hide hr
   have HQ:=hide hq
   have HV:=hide hv
   have HT:=hide ht
   have HG:=hide hg
   have HU:=hide (und_grown HU0.out hg (by omega) (by omega))
   clear hy hx hr hq hv ht hg hxp
   cases r with
   | false =>
    have HTK:=hide (show takR up ls l (j+1)=takR up ls l j++[clmR v] from by rw [takR_succ HY.out HV.out,HX.out,HRB.out];rfl)
    go_wp2_with (first|(go_at_call 84;refine (Node21_any HY.out HX.out wr HT.out HU.out (by omega) HFU.out).mono ?_;rintro e101 wN ⟨Ad,nd,kd,Ce,me,de,rfl,-,-,-,-,hbel⟩;replace HG:=hide (HG.out.trans ((grown_below hbel).but (some bM)));replace HT:=hide (HT.out.on hbel);replace HU:=hide (HU.out.under hbel (by omega));have hsz102:=hbel.size;clear hbel)|(go_at_call 52;refine (Redd_b HRB.out hxh.1 hxh.2 wN).mono ?_;rintro e103 wD ⟨rfl,hbel⟩;replace HG:=hide (HG.out.trans ((grown_below hbel).but (some bM)));replace HT:=hide (HT.out.on hbel);replace HU:=hide (HU.out.under hbel (by omega));have hsz104:=hbel.size;clear hbel)|(go_at_call 85;refine (Take_any HQ.out hqi wD HT.out (by omega)).mono ?_;rintro e7 w7 ⟨rfl,ht7,hg7⟩;have HT7:=hide ht7;have HG7:=hide (HG.out.trans hg7);clear ht7 hg7))
    go_roundw
    case rel=>exact ⟨j+1,c1+1,by omega,by omega,by go_num,by rw [HTK.out];exact HT7.out,HG7.out⟩
    case measure=>simp [intOf];omega
   | true =>
    have HTK:=hide (show takR up ls l (j+1)=takR up ls l j from by rw [takR_succ HY.out HV.out,HX.out,HRB.out];rfl)
    go_wp2_with (first|(go_at_call 84;refine (Node21_any HY.out HX.out wr HT.out HU.out (by omega) HFU.out).mono ?_;rintro e101 wN ⟨Ad,nd,kd,Ce,me,de,rfl,-,-,-,-,hbel⟩;replace HG:=hide (HG.out.trans ((grown_below hbel).but (some bM)));replace HT:=hide (HT.out.on hbel);replace HU:=hide (HU.out.under hbel (by omega));have hsz102:=hbel.size;clear hbel)|(go_at_call 52;refine (Redd_b HRB.out hxh.1 hxh.2 wN).mono ?_;rintro e103 wD ⟨rfl,hbel⟩;replace HG:=hide (HG.out.trans ((grown_below hbel).but (some bM)));replace HT:=hide (HT.out.on hbel);replace HU:=hide (HU.out.under hbel (by omega));have hsz104:=hbel.size;clear hbel))
    go_roundw
    case rel=>exact ⟨j+1,c1,by omega,by omega,by go_num,by rw [HTK.out];exact HT.out,HG.out⟩
    case measure=>simp [intOf];omega
  ·obtain rfl:n=j:=by omega
   have hjl:¬((n:Int) < (n:Int)):=by omega
   have hTL:takR up ls l n=(runR up ls l 0).1:=by rw [runR,HLN.out]
   rw [hTL] at ht
   have hb7:=below_new (below_self wr) (.map #[] 0)
   have HT7:=hide (ht.on hb7)
   have HG7:=hide (hg.trans ((grown_below hb7).but (some bM)))
   have HM7:=hide (MapT.made wr)
   have q17:(wr.alloc (.map #[] 0)).cell? ⟨gT,6,none⟩=some (.slice AW n cW):=HT7.out.row.cell 6
   obtain ⟨bT,hbT⟩:∃bT,wr.heap.size=bT:=⟨_,rfl⟩
   have hbTw:w.heap.size≤bT:=by omega
   clear ht hg hb7 hTL
   rw [hbT] at HM7
   have hmm := @run_makeMap Tryz.prog
   go_wp2_with fail
   clear hmm
   try rw [hbT]
   generalize wr.alloc (.map #[] 0)=w7 at *
   go_step3
   go_wp2_with fail
   go_loopw [30] (fun v30 wr=>∃(j c1 c2:Nat),j≤n∧c1≤n+j∧c2≤j∧v30=.int .i64 j∧TrQ wr lo hi gT bM c1 g AU AL AW AC nU cU nL cL n cW cC l cl (takF (runR up ls l j).1)∧MapT wr bT c2 (toldR up ls l j)∧w.grownBy wr (some bM)∧bT < wr.heap.size) (fun v30 _=>n - (intOf v30).toNat)
   case atStart=>exact ⟨0,c1,0,by omega,by omega,by omega,rfl,HT7.out,HM7.out,HG7.out,HM7.out.lt⟩
   case round =>
    obtain ⟨j,c1,c2,hj,hc1,hc2,rfl,ht,hm,hg,hbl⟩:=hrel
    have hgs:=hg.size
    by_cases hlt:j < n
    ·have hjl:(j:Int) < (n:Int):=by omega
     obtain ⟨y,hy⟩:∃y,l[j]?=some y:=⟨_,List.getElem?_eq_getElem (by have:=HLN.out;omega)⟩
     obtain ⟨v,hv⟩:∃v,(treeV up ls l)[j]?=some v:=⟨_,List.getElem?_eq_getElem (by have:=HLN.out;have:=HVN.out;omega)⟩
     have hq:cl[j]?=some (clmR v):=by rw [HCL.out,List.getElem?_map,hv];rfl
     have hqi:=HCI.out _ (List.mem_of_getElem? hq)
     have hyi:=HYI.out y (List.mem_of_getElem? hy)
     obtain ⟨x,hx⟩:∃x,nodAt up y.ino=x:=⟨_,rfl⟩
     have hxp:PlainN x:=by rw [←hx];exact nodAt_plain HFU.out.2 _
     have hxh:=hxp.2.2.1
     obtain ⟨r,hr⟩:∃r,hasR x=r:=⟨_,rfl⟩
     have HY:=hide hy
     have HX:=hide hx
     have HRB:=hide hr
     have HQ:=hide hq
     have HV:=hide hv
     obtain ⟨bW,oW,hAW,hbW,hcy⟩:=way_get ht.ways hy
     have HCY:=hide hcy
     subst hAW
     have HT:=hide ht
     have HM:=hide hm
     have HG:=hide hg
     have HU:=hide (und_grown HU0.out hg (by omega) (by omega))
     clear hy hx hr hq hv ht hm hg hxp hcy hbW
     cases r with
     | false =>
      have HTK:=hide (show (runR up ls l (j+1)).1=(runR up ls l j).1 from by rw [runR_succ HY.out HV.out,HX.out,HRB.out];rfl)
      have HTO:=hide (toldR_no (ls:=ls) HY.out (by rw [HX.out];exact HRB.out))
      go_wp2_with (first|(refine wpList_loadX rfl 118 (.tmp 33) rfl 3 way_agg way_size bW (oW+j*3) rfl (wayC y) HCY.out rfl ?_)|(refine wpList_storeW rfl 118 (.tmp 6) (.tmp 34) rfl 3 way_size (wr.heap.size) 118 rfl [.int .i64 0,.int .i64 0,.string ⟨#[]⟩] (wayC y) rfl (RowL.new wr 118 [.int .i64 0,.int .i64 0,.string ⟨#[]⟩]) rfl rfl (wayC_one _) ?_;intro wS201 hr201 hg201 hs201;have hzb:=below_stored' hg201;replace HG:=hide (HG.out.trans ((grown_below hzb).but (some bM)));replace HT:=hide (HT.out.on hzb);replace HU:=hide (HU.out.under hzb (by omega));replace HM:=hide (HM.out.on hzb);have hsz202:=hzb.size;have R6:=hide hr201;have hlt201:=hr201.lt;have q6_0:wS201.cell? ⟨wr.heap.size,0,none⟩=some (.int .i64 y.ino):=R6.out.cell 0;clear hzb hr201;clear hg201 hs201)|(go_at_call 84;refine (Node21_any HY.out HX.out wS201 HT.out HU.out (by omega) HFU.out).mono ?_;rintro e203 wN ⟨Ad,nd,kd,Ce,me,de,rfl,-,-,-,-,hbel⟩;clear q6_0;replace HG:=hide (HG.out.trans ((grown_below hbel).but (some bM)));replace HT:=hide (HT.out.on hbel);replace HU:=hide (HU.out.under hbel (by omega));replace HM:=hide (HM.out.on hbel);replace R6:=hide (R6.out.on hbel);have hsz204:=hbel.size;have q6_0:wN.cell? ⟨wr.heap.size,0,none⟩=some (.int .i64 y.ino):=R6.out.cell 0;clear hbel)|(go_at_call 52;refine (Redd_b HRB.out hxh.1 hxh.2 wN).mono ?_;rintro e205 wD ⟨rfl,hbel⟩;clear q6_0;replace HG:=hide (HG.out.trans ((grown_below hbel).but (some bM)));replace HT:=hide (HT.out.on hbel);replace HU:=hide (HU.out.under hbel (by omega));replace HM:=hide (HM.out.on hbel);replace R6:=hide (R6.out.on hbel);have hsz206:=hbel.size;have q6_0:wD.cell? ⟨wr.heap.size,0,none⟩=some (.int .i64 y.ino):=R6.out.cell 0;clear hbel))
      go_roundw
      case rel=>exact ⟨j+1,c1,c2,by omega,by omega,by omega,by go_num,by rw [HTK.out];exact HT.out,by rw [HTO.out];exact HM.out,HG.out,by omega⟩
      case measure=>simp [intOf];omega
     | true =>
      obtain ⟨e,he⟩:∃e,(if clR up l v j y=0∧takF (runR up ls l j).1 (clmR v)=true then 12 else clR up l v j y)=e:=⟨_,rfl⟩
      have HE:=hide he
      rw [takF_end] at he
      have hie:i64 e:=by
       have h1:=endR_in (t:=(runR up ls l j).1) (p:=clmR v) (clR_in up l v j y)
       rw [he] at h1
       unfold i64
       omega
      have HTO:=hide (toldR_yes (ls:=ls) HY.out HV.out (by rw [HX.out];exact HRB.out))
      rw [he] at HTO
      have HTK:=hide (show (runR up ls l (j+1)).1=if e=0 then (runR up ls l j).1++[clmR v] else (runR up ls l j).1 from by rw [runR_succ HY.out HV.out,HX.out,HRB.out,if_pos rfl];unfold stepR;simp only;rw [he])
      clear he
      go_wp2_with (first|(refine wpList_loadX rfl 118 (.tmp 33) rfl 3 way_agg way_size bW (oW+j*3) rfl (wayC y) HCY.out rfl ?_)|(refine wpList_storeW rfl 118 (.tmp 6) (.tmp 34) rfl 3 way_size (wr.heap.size) 118 rfl [.int .i64 0,.int .i64 0,.string ⟨#[]⟩] (wayC y) rfl (RowL.new wr 118 [.int .i64 0,.int .i64 0,.string ⟨#[]⟩]) rfl rfl (wayC_one _) ?_;intro wS201 hr201 hg201 hs201;have hzb:=below_stored' hg201;replace HG:=hide (HG.out.trans ((grown_below hzb).but (some bM)));replace HT:=hide (HT.out.on hzb);replace HU:=hide (HU.out.under hzb (by omega));replace HM:=hide (HM.out.on hzb);have hsz202:=hzb.size;have R6:=hide hr201;have hlt201:=hr201.lt;have q6_0:wS201.cell? ⟨wr.heap.size,0,none⟩=some (.int .i64 y.ino):=R6.out.cell 0;clear hzb hr201;clear hg201 hs201)|(go_at_call 84;refine (Node21_any HY.out HX.out wS201 HT.out HU.out (by omega) HFU.out).mono ?_;rintro e203 wN ⟨Ad,nd,kd,Ce,me,de,rfl,-,-,-,-,hbel⟩;clear q6_0;replace HG:=hide (HG.out.trans ((grown_below hbel).but (some bM)));replace HT:=hide (HT.out.on hbel);replace HU:=hide (HU.out.under hbel (by omega));replace HM:=hide (HM.out.on hbel);replace R6:=hide (R6.out.on hbel);have hsz204:=hbel.size;have q6_0:wN.cell? ⟨wr.heap.size,0,none⟩=some (.int .i64 y.ino):=R6.out.cell 0;clear hbel)|(go_at_call 52;refine (Redd_b HRB.out hxh.1 hxh.2 wN).mono ?_;rintro e205 wD ⟨rfl,hbel⟩;clear q6_0;replace HG:=hide (HG.out.trans ((grown_below hbel).but (some bM)));replace HT:=hide (HT.out.on hbel);replace HU:=hide (HU.out.under hbel (by omega));replace HM:=hide (HM.out.on hbel);replace R6:=hide (R6.out.on hbel);have hsz206:=hbel.size;have q6_0:wD.cell? ⟨wr.heap.size,0,none⟩=some (.int .i64 y.ino):=R6.out.cell 0;clear hbel))
      refine wp_region_planL (fun w'=>Below wD.heap.size wD w') [(0,true),(1,true),(2,true),(3,true),(4,true),(5,false)] 6 (by kernel_rfl) (by kernel_rfl) (by kernel_rfl) (by kernel_rfl) (by kernel_rfl) rfl (fun _ _ _ _ _ h=>h) (below_drew (below_self wD)) (fun hHeld=>?_)
      simp only [planOps,List.filterMap_cons,List.filterMap_nil,List.getElem?_toArray,List.getElem?_cons_succ,List.getElem?_cons_zero,Option.map_some]
      iterate 2
       refine wpPlan_take (v:=?_) (by kernel_rfl) (fun wS hSw=>?_) ?_
       rotate_left
       ·(try dsimp only at hSw);go_simp;(try with_reducible rfl)
       (try simp only [Act.put,pu1,pu2,pu3])
      refine wpPlan_take (v:=?_) (by kernel_rfl) (fun wS hSw=>?_) ?_
      rotate_left
      ·have qx:=((R6.out.on hSw).cell 0).trans (show (wayC y)[0]?=some (.int .i64 y.ino) from rfl);go_simp;(try with_reducible rfl)
      (try simp only [Act.put,pu1,pu2,pu3])
      iterate 2
       refine wpPlan_take (v:=?_) (by kernel_rfl) (fun wS hSw=>?_) ?_
       rotate_left
       ·(try dsimp only at hSw);go_simp;(try with_reducible rfl)
       (try simp only [Act.put,pu1,pu2,pu3])
      refine wpPlan_call (by kernel_rfl) (fun K hK=>?_)
      have hOld:=hide hHeld
      clear hHeld
      go_simp
      go_at_call 86
      refine (Clause_e HE.out HY.out HX.out HQ.out rfl rfl hqi rfl (by omega) _ (HT.out.on hOld.out) (HU.out.under hOld.out (by omega)) (by have:=hOld.out.size;omega) HFU.out).mono ?_
      rintro e w' ⟨rfl,hbel⟩
      refine hK.out _ _ (hOld.out.trans (hbel.mono hOld.out.size)) (fun hHeld=>?_)
      clear hK K
      (try simp only [Act.put,pu1,pu2,pu3])
      refine wpPlan_end ?_
      refine postL_go rfl (by kernel_rfl) ?_
      obtain ⟨w5,hrun,hm5,hg5⟩:=(HM.out.on hHeld).put hyi hie (by simp only [maxLen];omega)
      have hsh:=hHeld.size
      have hbMq:=(HT.out.on hHeld).set.lt
      have HT5:=hide ((HT.out.on hHeld).other hg5 (by omega) (by omega) (by omega))
      have HM5:=hide hm5
      have HG5:=hide (grown_new (HG.out.trans ((grown_below hHeld).but (some bM))) hg5 (by omega))
      have R65:=hide ((R6.out.on hHeld).grown hg5 (by intro h;have:=Option.some.inj h;omega))
      have hs5:=hg5.size
      unfold Oper.wp execOp
      go_simp
      have hlk:=HM5.out.look hyi (show (fun i=>if i=y.ino then some e else toldR up ls l j i) y.ino=some e from by simp only [if_pos])
      have q6:w5.cell? ⟨wr.heap.size,0,none⟩=some (.int .i64 y.ino):=R65.out.cell 0
      have HU5:=hide (HU.out.under hHeld (by omega))
      clear hrun hHeld hm5 hg5 HT HM HG HU R6 q6_0
      (try simp only [Act.put])
      by_cases he0:e=0
      ·rw [if_pos he0] at HTK
       have he1:(e==0)=true:=by simp [he0]
       go_wp2_with (first|(go_at_call 85;refine (Take_any HQ.out hqi w5 HT5.out (by omega)).mono ?_;rintro e7 w7 ⟨rfl,ht7,hg7⟩;have HT7:=hide ht7;have HM7:=hide (HM5.out.kept hg7 (by intro h;have:=Option.some.inj h;omega));have HG7:=hide (HG5.out.trans hg7);have hs7:=hg7.size;clear ht7 hg7))
       go_roundw
       case rel=>exact ⟨j+1,c1+1,c2+1,by omega,by omega,by omega,by go_num,by rw [HTK.out];exact HT7.out,by rw [HTO.out];exact HM7.out,HG7.out,by omega⟩
       case measure=>simp [intOf];omega
      ·rw [if_neg he0] at HTK
       have he1:(e==0)=false:=by simp [he0]
       go_wp2_with fail
       go_roundw
       case rel=>exact ⟨j+1,c1,c2+1,by omega,by omega,by omega,by go_num,by rw [HTK.out];exact HT5.out,by rw [HTO.out];exact HM5.out,HG5.out,by omega⟩
       case measure=>simp [intOf];omega
    ·obtain rfl:n=j:=by omega
     have hjl:¬((n:Int) < (n:Int)):=by omega
     have HMO:=hide (show MapT wr bT c2 (toldR up ls l l.length) from by rw [HLN.out];exact hm)
     have HGO:=hide hg
     clear ht hm hg
     go_wp2_with fail
     go_ret
     exact ⟨bT,c2,rfl,hbTw,HMO.out,HGO.out⟩
end Go.Proofs.YtggnbflbbfdohaaGreat

