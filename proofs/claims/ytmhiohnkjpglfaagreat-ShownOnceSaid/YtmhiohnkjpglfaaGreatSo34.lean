import Derived.Test.YtmhiohnkjpglfaaGreatSo26
import Derived.Test.YtmhiohnkjpglfaaGreatSo33
import Derived.Test.YtmhiohnkjpglfaaGreatSo29
import Derived.Test.YtmhiohnkjpglfaaGreatSo30
import Derived.Test.YtmhiohnkjpglfaaGreatSo31
import Derived.Test.YtmhiohnkjpglfaaGreatSo20
import Derived.Test.YtmhiohnkjpglfaaGreatSo25
import Derived.Test.YtmhiohnkjpglfaaGreatSo27
import Derived.Test.YtmhiohnkjpglfaaGreatSo18
import Derived.Test.YtmhiohnkjpglfaaGreatSo17

namespace Go.Proofs.YtmhiohnkjpglfaaGreat
open Go.RowKit Go.Shelf Plain

theorem aw_tang:lsB.any tangB=false:=by decide +kernel
theorem aw_tour:tourS upI lsB 1=([((1,[(1,1)]),[])],[([47,97],2,(1,2))]):=by kernel_rfl
theorem aw_all:allS upI lsB=[([47,97],2,(1,2))]:=by
 unfold allS
 rw [if_neg (by rw [aw_tang];simp)]
 have h:=tour_end (up:=upI) (ls:=lsB) (k:=1) (by rw [aw_tour];simp) 1799
 rw [show 1+1799=1800 from rfl] at h
 rw [h,aw_tour]
theorem aw_cnt:cntS [([47,97],2,(1,2))] (1,2)=1:=by kernel_rfl
def ShnP (w:World) (n:Nat) (l:List ShnV) (e:Ending) (w':World):Prop:=∃A c,e=.returned (.slice A n c)∧RdE shnEn w' (Under w'.heap.size) A n l∧Below w.heap.size w w'
theorem All_p {g:GeoQ} {AU AL:Option Addr} {nU cU nL cL B:Nat} {up:List NodV} {ls:List (List NodV)} {R:List ShnV} {n:Nat} (hR:allS up ls=R) (hn:R.length=n) (w:World) (hu:RdE nodEn w (Under B) AU nU up) (h:RdE layEn w (Under B) AL nL ls) (hB:B≤w.heap.size) (hF:FewL ls) (hup:FewU up):Calls Tryz.prog 12 #[.agg (stkC g (.slice AU nU cU) (.slice AL nL cL)).toArray] w (ShnP w n R):=by
 refine (All_any w hu h hB hF hup).mono ?_
 rintro e w' ⟨A,m,c,rfl,-,h2,h3⟩
 rw [hR] at h2
 obtain rfl:n=m:=by rw [←hn];exact h2.1
 exact ⟨A,c,rfl,h2,h3⟩
theorem Count_e {g:GeoQ} {AU AL:Option Addr} {nU cU nL cL B:Nat} {up:List NodV} {ls:List (List NodV)} {p:Int×Int} {m:Nat} (hm:cntS (allS up ls) p=m) (w:World) (hu:RdE nodEn w (Under B) AU nU up) (h:RdE layEn w (Under B) AL nL ls) (hB:B≤w.heap.size) (hF:FewL ls) (hup:FewU up):Calls Tryz.prog 14 #[.agg (stkC g (.slice AU nU cU) (.slice AL nL cL)).toArray,.agg #[.int .i64 p.1,.int .i64 p.2]] w (fun e w'=>e=.returned (.int .i64 m)∧Below w.heap.size w w'):=by
 rw [←hm]
 exact Count_any w hu h hB hF hup
set_option maxRecDepth 100000 in
set_option maxHeartbeats 4000000 in
theorem awake19_any (w:World):Calls Tryz.prog 10 #[] w (LawOk w):=by
 have HB:=hide (below_self w)
 have hlit:=fun W=>lit_shn [47,97] 2 1 2 W
 go_enter Tryz.func10,Tryz.ntmps10
 go_wp2_with (first|(go_at_call 53;refine (Idle_any w).mono ?_;rintro e1 wI ⟨AU,nU,cU,AL,nL,cL,rfl,hu,hl,hbel⟩;replace HB:=hide (HB.out.trans (hbel.mono HB.out.size));have hsz2:=hbel.size;have HU:=hide hu;clear hu;have HL:=hide hl;clear hl;clear hbel)|(refine wpList_storeW rfl 29 (.tmp 1) (.tmp 3) rfl 6 stk_size (wI.heap.size) 29 rfl (stkC ⟨0,0,0,0⟩ (.slice none 0 0) (.slice none 0 0)) (stkC gB (.slice AU nU cU) (.slice AL nL cL)) rfl (RowL.new wI 29 (stkC ⟨0,0,0,0⟩ (.slice none 0 0) (.slice none 0 0))) rfl rfl (stkC_one _ _ _ _ _ _ _) ?_;intro wS3 hr3 hg3 hs3;have hzb:=below_stored' hg3;replace HB:=hide (HB.out.trans (hzb.mono HB.out.size));replace HU:=hide (HU.out.under hzb (by omega));replace HL:=hide (HL.out.under hzb (by omega));have hsz4:=hzb.size;have RS:=hide hr3;have hlt3:=hr3.lt;have q1_0:wS3.cell? ⟨wI.heap.size,0,none⟩=some (.int .i64 1):=RS.out.cell 0;have q1_1:wS3.cell? ⟨wI.heap.size,1,none⟩=some (.int .i64 5):=RS.out.cell 1;have q1_2:wS3.cell? ⟨wI.heap.size,2,none⟩=some (.int .i64 6):=RS.out.cell 2;have q1_3:wS3.cell? ⟨wI.heap.size,3,none⟩=some (.int .i64 5):=RS.out.cell 3;have q1_4:wS3.cell? ⟨wI.heap.size,4,none⟩=some (.slice AU nU cU):=RS.out.cell 4;have q1_5:wS3.cell? ⟨wI.heap.size,5,none⟩=some (.slice AL nL cL):=RS.out.cell 5;clear hzb hr3;clear hg3 hs3)|(refine wpList_loadW rfl 29 (.tmp 1) rfl 6 stk_agg stk_size (wI.heap.size) 29 rfl (stkC gB (.slice AU nU cU) (.slice AL nL cL)) RS.out rfl ?_)|(go_at_call 12;refine (All_p (g:=gB) (n:=1) aw_all rfl wS3 HU.out HL.out (by omega) ba_few aw_few).mono ?_;rintro e5 wR ⟨A5,c5,rfl,h5,hbel⟩;clear q1_0 q1_1 q1_2 q1_3 q1_4 q1_5;replace HB:=hide (HB.out.trans (hbel.mono HB.out.size));replace HU:=hide (HU.out.under hbel (by omega));replace HL:=hide (HL.out.under hbel (by omega));replace RS:=hide (RS.out.on hbel);have hsz6:=hbel.size;have q1_0:wR.cell? ⟨wI.heap.size,0,none⟩=some (.int .i64 1):=RS.out.cell 0;have q1_1:wR.cell? ⟨wI.heap.size,1,none⟩=some (.int .i64 5):=RS.out.cell 1;have q1_2:wR.cell? ⟨wI.heap.size,2,none⟩=some (.int .i64 6):=RS.out.cell 2;have q1_3:wR.cell? ⟨wI.heap.size,3,none⟩=some (.int .i64 5):=RS.out.cell 3;have q1_4:wR.cell? ⟨wI.heap.size,4,none⟩=some (.slice AU nU cU):=RS.out.cell 4;have q1_5:wR.cell? ⟨wI.heap.size,5,none⟩=some (.slice AL nL cL):=RS.out.cell 5;have H5:=hide h5;clear h5;clear hbel)|(go_at_call 11;refine (EqShn_same (L:=[([47,97],2,(1,2))]) _ (H5.out.under (below_new (below_self wR) _) (by omega)) (enc_lit1 (E:=shnEn) (x:=([47,97],2,(1,2))) (cs:=shnC ([47,97],2,(1,2))) (fun _ _=>rfl) wR 37 (lo:=0) (Nat.zero_le _)) (by omega)).mono ?_;rintro e99 wE ⟨rfl,hbel0⟩;have hbel:Below wR.heap.size wR wE:=(below_new (below_self wR) (.cells #[.string ⟨#[47,97]⟩,.int .i64 2,.int .i64 1,.int .i64 2] 37)).trans (hbel0.mono (by simp));clear q1_0 q1_1 q1_2 q1_3 q1_4 q1_5;replace HB:=hide (HB.out.trans (hbel.mono HB.out.size));replace HU:=hide (HU.out.under hbel (by omega));replace HL:=hide (HL.out.under hbel (by omega));replace RS:=hide (RS.out.on hbel);replace H5:=hide (H5.out.under hbel (by omega));have hsz7:=hbel.size;have q1_0:wE.cell? ⟨wI.heap.size,0,none⟩=some (.int .i64 1):=RS.out.cell 0;have q1_1:wE.cell? ⟨wI.heap.size,1,none⟩=some (.int .i64 5):=RS.out.cell 1;have q1_2:wE.cell? ⟨wI.heap.size,2,none⟩=some (.int .i64 6):=RS.out.cell 2;have q1_3:wE.cell? ⟨wI.heap.size,3,none⟩=some (.int .i64 5):=RS.out.cell 3;have q1_4:wE.cell? ⟨wI.heap.size,4,none⟩=some (.slice AU nU cU):=RS.out.cell 4;have q1_5:wE.cell? ⟨wI.heap.size,5,none⟩=some (.slice AL nL cL):=RS.out.cell 5;clear hbel hbel0)|(go_at_call 14;refine (Count_e (g:=gB) (p:=(1,2)) (m:=1) (by rw [aw_all];exact aw_cnt) wE HU.out HL.out (by omega) ba_few aw_few).mono ?_;rintro e8 wC ⟨rfl,hbel⟩;clear q1_0 q1_1 q1_2 q1_3 q1_4 q1_5;replace HB:=hide (HB.out.trans (hbel.mono HB.out.size));replace HU:=hide (HU.out.under hbel (by omega));replace HL:=hide (HL.out.under hbel (by omega));replace RS:=hide (RS.out.on hbel);replace H5:=hide (H5.out.under hbel (by omega));have hsz9:=hbel.size;have q1_0:wC.cell? ⟨wI.heap.size,0,none⟩=some (.int .i64 1):=RS.out.cell 0;have q1_1:wC.cell? ⟨wI.heap.size,1,none⟩=some (.int .i64 5):=RS.out.cell 1;have q1_2:wC.cell? ⟨wI.heap.size,2,none⟩=some (.int .i64 6):=RS.out.cell 2;have q1_3:wC.cell? ⟨wI.heap.size,3,none⟩=some (.int .i64 5):=RS.out.cell 3;have q1_4:wC.cell? ⟨wI.heap.size,4,none⟩=some (.slice AU nU cU):=RS.out.cell 4;have q1_5:wC.cell? ⟨wI.heap.size,5,none⟩=some (.slice AL nL cL):=RS.out.cell 5;clear hbel)|(go_at_call 17;refine (Paths_any wC (und_up H5.out (by omega)) (by omega)).mono ?_;rintro e10 wN ⟨A7,c7,rfl,h7,hbel⟩;clear q1_0 q1_1 q1_2 q1_3 q1_4 q1_5;replace HB:=hide (HB.out.trans (hbel.mono HB.out.size));replace HU:=hide (HU.out.under hbel (by omega));replace HL:=hide (HL.out.under hbel (by omega));replace RS:=hide (RS.out.on hbel);replace H5:=hide (H5.out.under hbel (by omega));have hsz11:=hbel.size;have q1_0:wN.cell? ⟨wI.heap.size,0,none⟩=some (.int .i64 1):=RS.out.cell 0;have q1_1:wN.cell? ⟨wI.heap.size,1,none⟩=some (.int .i64 5):=RS.out.cell 1;have q1_2:wN.cell? ⟨wI.heap.size,2,none⟩=some (.int .i64 6):=RS.out.cell 2;have q1_3:wN.cell? ⟨wI.heap.size,3,none⟩=some (.int .i64 5):=RS.out.cell 3;have q1_4:wN.cell? ⟨wI.heap.size,4,none⟩=some (.slice AU nU cU):=RS.out.cell 4;have q1_5:wN.cell? ⟨wI.heap.size,5,none⟩=some (.slice AL nL cL):=RS.out.cell 5;have HN:=hide h7;clear h7;clear hbel)|(go_at_call 16;refine (EqS_b (show (([[47,97]]:List (List UInt8))==[[47,97]])=true from by decide) _ (HN.out.rd.on (below_new (below_self wN) _)) (Rd.one wN 9 (f:=st) (u:=.string ⟨#[47,97]⟩) (x:=[47,97]) rfl) (by omega)).mono ?_;rintro e98 wE2 ⟨rfl,hbel⟩;replace HB:=hide (HB.out.trans (((below_new (below_self wN) _).trans (hbel.mono (by simp))).mono HB.out.size));clear hbel))
 go_ret
 exact LawOk.of HB.out
end Go.Proofs.YtmhiohnkjpglfaaGreat

namespace Go.Proofs.YtmhiohnkjpglfaaGreat
open Go.RowKit Plain

def toldN (up:List NodV) (ls:List (List NodV)) (s:StopV):List (List (List UInt8)):=(keptS up ls s.1).map (fun x=>s.2++[x])
def tourN (up : List NodV) (ls : List (List NodV)) : Nat → List (List (List UInt8))
 | 0=>[]
 | k+1=>match (tourS up ls k).1[k]? with
  | none=>tourN up ls k
  | some s=>tourN up ls k++toldN up ls s
theorem tourN_some {up:List NodV} {ls:List (List NodV)} {k:Nat} {s:StopV} (h:(tourS up ls k).1[k]?=some s):tourN up ls (k+1)=tourN up ls k++toldN up ls s:=by
 show (match (tourS up ls k).1[k]? with|none=>tourN up ls k|some s=>tourN up ls k++toldN up ls s)=_
 rw [h]
theorem tourN_none {up:List NodV} {ls:List (List NodV)} {k:Nat} (h:(tourS up ls k).1[k]?=none):tourN up ls (k+1)=tourN up ls k∧tourS up ls (k+1)=tourS up ls k:=by
 constructor
 ·show (match (tourS up ls k).1[k]? with|none=>tourN up ls k|some s=>tourN up ls k++toldN up ls s)=_
  rw [h]
 ·show (match (tourS up ls k).1[k]? with|none=>tourS up ls k|some s=>((tourS up ls k).1++nextS up ls s,(tourS up ls k).2++toldS up ls s))=_
  rw [h]
theorem told_names (up : List NodV) (ls : List (List NodV)) : ∀ k, (tourS up ls k).2.map (fun x => x.1) = (tourN up ls k).map pathC
 | 0=>rfl
 | k+1=>by
  have ih:=told_names up ls k
  cases hs:(tourS up ls k).1[k]? with
  | none=>rw [(tourN_none hs).1,(tourN_none hs).2,ih]
  | some s =>
   rw [tour_some hs,tourN_some hs,List.map_append,List.map_append,ih]
   congr 1
   unfold toldS toldN
   rw [List.map_map,List.map_map]
   rfl
theorem snoc_inj {α:Type} {a b:List α} {x y:α} (h:a++[x]=b++[y]):a=b∧x=y:=by
 have h1:=List.append_inj' h rfl
 exact ⟨h1.1,by simpa using h1.2⟩
theorem nodup_map_snoc {α:Type} (p:List α) {l:List α} (h:l.Nodup):(l.map (fun x=>p++[x])).Nodup:=by
 unfold List.Nodup at *
 rw [List.pairwise_map]
 exact h.imp (fun hab e=>hab (snoc_inj e).2)
structure OnceT (up : List NodV) (ls : List (List NodV)) (k : Nat) : Prop where
 told:(tourN up ls k).Nodup
 stops:((tourS up ls k).1.map (fun s=>s.2)).Nodup
 from_:∀n∈tourN up ls k,∃j s x,j < k∧(tourS up ls k).1[j]?=some s∧n=s.2++[x]
 root:∀s∈(tourS up ls k).1,s.2=[]∨s.2∈tourN up ls k
theorem once_tour (up : List NodV) (ls : List (List NodV)) : ∀ k, OnceT up ls k
 | 0=>⟨by simp [tourN],by simp [tourS],by simp [tourN],fun s hs=>by simp only [tourS,List.mem_singleton] at hs;rw [hs];exact .inl rfl⟩
 | k+1=>by
  have ih:=once_tour up ls k
  cases hs:(tourS up ls k).1[k]? with
  | none =>
   obtain ⟨e1,e2⟩:=tourN_none hs
   refine ⟨by rw [e1];exact ih.told,by rw [e2];exact ih.stops,fun n hn=>?_,fun s h=>?_⟩
   ·rw [e1] at hn
    obtain ⟨j,s,x,h1,h2,h3⟩:=ih.from_ n hn
    exact ⟨j,s,x,by omega,by rw [e2];exact h2,h3⟩
   ·rw [e2] at h
    rw [e1]
    exact ih.root s h
  | some s =>
   have e1:=tourN_some hs
   have e2:=tour_some hs
   have hk:=keep_nodup up ls s.1
   -- none of the names of old paths begins as those of this stop, one more
   have hold:∀n∈tourN up ls k,∀x,n≠s.2++[x]:=fun n hn x e=>by
    obtain ⟨j,t,y,h1,h2,h3⟩:=ih.from_ n hn
    have h4:=(snoc_inj (h3.symm.trans e)).1
    have h5:((tourS up ls k).1.map (fun s=>s.2))[j]?=some t.2:=by rw [List.getElem?_map,h2];rfl
    have h6:((tourS up ls k).1.map (fun s=>s.2))[k]?=some s.2:=by rw [List.getElem?_map,hs];rfl
    have h7:=(List.getElem?_eq_some_iff.1 h5)
    have h8:=(List.getElem?_eq_some_iff.1 h6)
    obtain ⟨a1,a2⟩:=h7
    obtain ⟨b1,b2⟩:=h8
    have h9:=(List.pairwise_iff_getElem.1 ih.stops) j k a1 b1 h1
    rw [a2,b2] at h9
    exact h9 h4
   have hnewN:(toldN up ls s).Nodup:=nodup_map_snoc s.2 hk
   have hnewS:((nextS up ls s).map (fun s=>s.2)).Nodup:=by
    unfold nextS
    rw [List.map_map]
    exact nodup_map_snoc s.2 (hk.filter _)
   refine ⟨?_,?_,fun n hn=>?_,fun t ht=>?_⟩
   ·rw [e1,List.nodup_append]
    refine ⟨ih.told,hnewN,fun a ha b hb e=>?_⟩
    obtain ⟨x,-,rfl⟩:=List.mem_map.1 hb
    exact hold a ha x e
   ·rw [e2]
    show (((tourS up ls k).1++nextS up ls s).map (fun s=>s.2)).Nodup
    rw [List.map_append,List.nodup_append]
    refine ⟨ih.stops,hnewS,fun a ha b hb e=>?_⟩
    obtain ⟨t,ht,rfl⟩:=List.mem_map.1 ha
    obtain ⟨t2,ht2,rfl⟩:=List.mem_map.1 hb
    unfold nextS at ht2
    obtain ⟨x,-,rfl⟩:=List.mem_map.1 ht2
    rcases ih.root t ht with h|h
    ·have h3:t.2=s.2++[x]:=e
     rw [h] at h3
     simp at h3
    ·exact hold _ h x e
   ·rw [e1] at hn
    rw [e2]
    rcases List.mem_append.1 hn with h|h
    ·obtain ⟨j,t,x,h1,h2,h3⟩:=ih.from_ n h
     exact ⟨j,t,x,by omega,by show ((tourS up ls k).1++nextS up ls s)[j]?=_;rw [List.getElem?_append_left (List.getElem?_eq_some_iff.1 h2).1];exact h2,h3⟩
    ·obtain ⟨x,-,rfl⟩:=List.mem_map.1 h
     exact ⟨k,s,x,by omega,by show ((tourS up ls k).1++nextS up ls s)[k]?=_;rw [List.getElem?_append_left (List.getElem?_eq_some_iff.1 hs).1];exact hs,rfl⟩
   ·rw [e2] at ht
    rw [e1]
    rcases List.mem_append.1 ht with h|h
    ·exact (ih.root t h).imp id (fun h=>List.mem_append_left _ h)
    ·unfold nextS at h
     obtain ⟨x,hx,rfl⟩:=List.mem_map.1 h
     exact .inr (List.mem_append_right _ (List.mem_map.2 ⟨x,(List.mem_filter.1 hx).1,rfl⟩))
end Go.Proofs.YtmhiohnkjpglfaaGreat

namespace Go.Proofs.YtmhiohnkjpglfaaGreat
open Go.RowKit Go.Shelf Plain

def beginM (up:List NodV) (ls:List (List NodV)):StepV:=(1,rootV up ls,if (rootV up ls).1=0 then (rootV up ls).2.headD (0,0) else (0,1))
def goM (up:List NodV) (ls:List (List NodV)) (c:StepV) (nm:List UInt8):StepV:=if c.1=1 then stepV up ls c.2.1 nm else noStep
def atM (up:List NodV) (ls:List (List NodV)) (l:List (List UInt8)):StepV:=l.foldl (goM up ls) (beginM up ls)
theorem go_few {up:List NodV} {ls:List (List NodV)} {c:StepV} {nm:List UInt8} (h:c.2.1.2.length≤ls.length):(goM up ls c nm).2.1.2.length≤ls.length:=by
 unfold goM
 split
 ·have:=stepV_len up ls c.2.1 nm
  omega
 ·simp [noStep]
theorem fold_few {up : List NodV} {ls : List (List NodV)} : ∀ (l : List (List UInt8)) (c : StepV), c.2.1.2.length ≤ ls.length → (l.foldl (goM up ls) c).2.1.2.length ≤ ls.length
 | [],_,h=>h
 | _::r,_,h=>fold_few r _ (go_few h)
theorem at_few (up:List NodV) (ls:List (List NodV)) (l:List (List UInt8)):(atM up ls l).2.1.2.length≤ls.length:=fold_few l _ (rootV_len up ls)
theorem at_take (up:List NodV) (ls:List (List NodV)) {l:List (List UInt8)} {j:Nat} {x:List UInt8} (h:l[j]?=some x):atM up ls (l.take (j+1))=goM up ls (atM up ls (l.take j)) x:=by
 unfold atM
 rw [List.take_add_one,h,List.foldl_append]
 rfl
def comC (S:StepV) (s:Value):List Value:=[.int .i64 S.2.1.1,s,.int .i64 S.2.2.1,.int .i64 S.2.2.2,.int .i64 S.1]
theorem comC_one (S:StepV) (A:Option Addr) (n c:Nat):∀v∈comC S (.slice A n c),v.oneCell'=true:=by
 intro v hv
 simp only [comC,List.mem_cons,List.not_mem_nil,or_false] at hv
 rcases hv with h|h|h|h|h <;> (subst h;rfl)
set_option maxRecDepth 100000 in
theorem com_agg:∀w,(isAgg 115).run Tryz.prog w=.ok true w:=fun _=>rfl
set_option maxRecDepth 100000 in
theorem com_size:∀w,(Go.sizeOf 115).run Tryz.prog w=.ok 5 w:=fun _=>rfl
def ComF (lo:Nat) (w:World) (S:StepV) (e:Ending) (w':World):Prop:=∃A c,e=.returned (.agg (comC S (.slice A S.2.1.2.length c)).toArray)∧RdE prEn w' (fun b=>lo≤b∧b < w'.heap.size) A S.2.1.2.length S.2.1.2∧Below w.heap.size w w'
theorem fr_btw {α:Type} {E:Enc α} {w:World} {lo hi:Nat} {A:Option Addr} {n:Nat} {l:List α} (h:RdE E w (fun b=>lo≤b∧b < hi) A n l) (hh:hi≤w.heap.size):RdE E w (fun b=>lo≤b∧b < w.heap.size) A n l:=h.mono (fun _ _=>rfl) (fun _ hb=>⟨hb.1,Nat.lt_of_lt_of_le hb.2 hh⟩)
theorem hcel {w w':World} {b o B:Nat} {p:Int×Int} (h:∀(j:Nat) (v:Value),(prC p)[j]?=some v→w.cell? ⟨b,o+j,none⟩=some v) (hb:Below B w w') (hlt:b < B):∀(j:Nat) (v:Value),(prC p)[j]?=some v→w'.cell? ⟨b,o+j,none⟩=some v:=fun j v hv=>(hb.cell (p:=⟨b,o+j,none⟩) hlt).trans (h j v hv)
set_option maxRecDepth 100000 in
set_option maxHeartbeats 8000000 in
theorem MBegin_any {g:GeoQ} {AU AL:Option Addr} {nU cU nL cL B:Nat} {up:List NodV} {ls:List (List NodV)} (w:World) (hu:RdE nodEn w (Under B) AU nU up) (h:RdE layEn w (Under B) AL nL ls) (hB:B≤w.heap.size) (hF:FewL ls) (hup:FewU up):Calls Tryz.prog 65 #[.agg (stkC g (.slice AU nU cU) (.slice AL nL cL)).toArray] w (ComF w.heap.size w (beginM up ls)):=by
 obtain ⟨W1,hW1⟩:∃W1,((w.alloc (.cells (stkC g (.slice AU nU cU) (.slice AL nL cL)).toArray 29)).alloc (.cells (comC noStep (.slice none 0 0)).toArray 115))=W1:=⟨_,rfl⟩
 obtain ⟨r0,r1,hb1,hs1⟩:=rowA2 w _ _ _ _ hW1
 have hW1':((w.alloc (.cells #[.int .i64 g.a,.int .i64 g.b,.int .i64 g.c,.int .i64 g.d,.slice AU nU cU,.slice AL nL cL] 29)).alloc (.cells #[.int .i64 0,.slice none 0 0,.int .i64 0,.int .i64 0,.int .i64 0] 115))=W1:=hW1
 have R1:=hide r0
 have R2:=hide r1
 have HB:=hide hb1
 have hsz0:=hb1.size
 have HU:=hide (hu.under hb1 hB)
 have HL:=hide (h.under hb1 hB)
 have HF:=hide hF
 have HFU:=hide hup
 obtain ⟨V,hV⟩:∃V,rootV up ls=V:=⟨_,rfl⟩
 have HV:=hide hV
 unfold beginM
 rw [hV]
 obtain ⟨u,vl⟩:=V
 unfold stkC
 clear r0 r1 hb1 hW1 hu h hF hup hV
 dsimp only
 by_cases hu0:u=0
 ·have hu1:(u != 0)=false:=by simpa using hu0
  rw [if_pos hu0]
  clear hu0
  by_cases hl0:vl.length=0
  ·obtain rfl:=List.eq_nil_of_length_eq_zero hl0
   rw [show ([]:List (Int×Int)).headD (0,0)=(0,0) from rfl]
   clear hl0
   go_enter Tryz.func65,Tryz.ntmps65
   go_wp2_with (first|(refine wpList_loadW rfl 29 (.tmp 1) rfl 6 stk_agg stk_size (w.heap.size) 29 rfl (stkC g (.slice AU nU cU) (.slice AL nL cL)) R1.out rfl ?_)|(go_at_call 76;refine (VRoot_e HV.out W1 HU.out HL.out (by omega) HF.out HFU.out).mono ?_;rintro e1 wR ⟨A6,c6,rfl,h6,hbel⟩;replace HB:=hide (HB.out.trans (hbel.mono HB.out.size));replace R1:=hide (R1.out.on hbel);replace R2:=hide (R2.out.on hbel);replace HU:=hide (HU.out.under hbel (by omega));replace HL:=hide (HL.out.under hbel (by omega));have hsz2:=hbel.size;have H6:=hide h6;clear h6;simp only [viwC,List.length_nil];clear hbel)|(refine wpList_storeW rfl 115 (.tmp 3) (.tmp 6) rfl 5 com_size (wR.heap.size) 115 rfl (comC noStep (.slice none 0 0)) (comC (1,(u,[]),(0,0)) (.slice A6 0 c6)) rfl (RowL.new wR 115 (comC noStep (.slice none 0 0))) rfl rfl (comC_one _ _ _ _) ?_;intro wS3 hr3 hg3 hs3;have hzb:=below_stored' hg3;replace HB:=hide (HB.out.trans (hzb.mono HB.out.size));replace R1:=hide (R1.out.on hzb);replace R2:=hide (R2.out.on hzb);replace HU:=hide (HU.out.under hzb (by omega));replace HL:=hide (HL.out.under hzb (by omega));replace H6:=hide (btw_on H6.out hzb (by omega));have hsz4:=hzb.size;have R3:=hide hr3;have hlt3:=hr3.lt;have q3_0:wS3.cell? ⟨wR.heap.size,0,none⟩=some (.int .i64 u):=R3.out.cell 0;have q3_1:wS3.cell? ⟨wR.heap.size,1,none⟩=some (.slice A6 0 c6):=R3.out.cell 1;clear hzb hr3;clear hg3 hs3)|(refine wpList_loadW rfl 115 (.tmp 3) rfl 5 com_agg com_size (wR.heap.size) 115 rfl (comC (1,(u,[]),(0,0)) (.slice A6 0 c6)) R3.out rfl ?_)|(refine wpList_storeW rfl 115 (.tmp 2) (.tmp 26) rfl 5 com_size (w.heap.size+1) 115 rfl (comC noStep (.slice none 0 0)) (comC (1,(u,[]),(0,0)) (.slice A6 0 c6)) rfl R2.out rfl rfl (comC_one _ _ _ _) ?_;intro wS5 hr5 hg5 hs5;clear q3_0 q3_1;replace HB:=hide (HB.out.grown hg5 (by omega) (pu4 (by omega)));replace R1:=hide (R1.out.grown hg5 (pu5 (by omega)));replace HU:=hide (und_grown HU.out hg5 (by omega) (by omega));replace HL:=hide (und_grown HL.out hg5 (by omega) (by omega));replace H6:=hide (btw_grown H6.out hg5 (by omega) (by omega));replace R3:=hide (R3.out.grown hg5 (pu5 (by omega)));have hsz6:=hg5.size;replace R2:=hide hr5;have q3_0:wS5.cell? ⟨wR.heap.size,0,none⟩=some (.int .i64 u):=R3.out.cell 0;have q3_1:wS5.cell? ⟨wR.heap.size,1,none⟩=some (.slice A6 0 c6):=R3.out.cell 1;clear hr5 hg5 hs5))
   exact bodyPost_ret (res_cell Tryz.results65 rfl com_agg com_size R2.out rfl) rfl ⟨_,c6,rfl,fr_low (fr_btw H6.out (by omega)) (by omega),HB.out⟩
  ·have hl1:decide ((0:Int) < (vl.length:Int))=true:=decide_eq_true (by omega)
   have hl2:0 < vl.length:=by omega
   obtain ⟨p,hp0⟩:∃p,vl[0]?=some p:=⟨_,List.getElem?_eq_getElem hl2⟩
   rw [show vl.headD (0,0)=p from by cases vl with|nil=>simp at hl2|cons a r=>simpa using hp0]
   clear hl0
   go_enter Tryz.func65,Tryz.ntmps65
   go_wp2_with (first|(refine wpList_loadW rfl 29 (.tmp 1) rfl 6 stk_agg stk_size (w.heap.size) 29 rfl (stkC g (.slice AU nU cU) (.slice AL nL cL)) R1.out rfl ?_)|(go_at_call 76;refine (VRoot_e HV.out W1 HU.out HL.out (by omega) HF.out HFU.out).mono ?_;rintro e1 wR ⟨A6,c6,rfl,h6,hbel⟩;replace HB:=hide (HB.out.trans (hbel.mono HB.out.size));replace R1:=hide (R1.out.on hbel);replace R2:=hide (R2.out.on hbel);replace HU:=hide (HU.out.under hbel (by omega));replace HL:=hide (HL.out.under hbel (by omega));have hsz2:=hbel.size;have H6:=hide h6;clear h6;simp only [viwC];obtain ⟨bP,oP,rfl,hbP,hcP⟩:=pr_get H6.out hp0;have hbP2:bP < wR.heap.size:=hbP.2;have HCP:=hide (fun (j:Nat) (v:Value) (hv:(prC p)[j]?=some v)=>show wR.cell? ⟨bP,oP+j,none⟩=some v from by have:=hcP j v hv;simpa using this);clear hcP hbP;clear hbel)|(refine wpList_storeW rfl 115 (.tmp 3) (.tmp 6) rfl 5 com_size (wR.heap.size) 115 rfl (comC noStep (.slice none 0 0)) (comC (1,(u,vl),(0,0)) (.slice (some ⟨bP,oP,none⟩) vl.length c6)) rfl (RowL.new wR 115 (comC noStep (.slice none 0 0))) rfl rfl (comC_one _ _ _ _) ?_;intro wS3 hr3 hg3 hs3;have hzb:=below_stored' hg3;replace HB:=hide (HB.out.trans (hzb.mono HB.out.size));replace R1:=hide (R1.out.on hzb);replace R2:=hide (R2.out.on hzb);replace HU:=hide (HU.out.under hzb (by omega));replace HL:=hide (HL.out.under hzb (by omega));replace H6:=hide (btw_on H6.out hzb (by omega));replace HCP:=hide (hcel HCP.out hzb (by omega));have hsz4:=hzb.size;have R3:=hide hr3;have hlt3:=hr3.lt;have q3_0:wS3.cell? ⟨wR.heap.size,0,none⟩=some (.int .i64 u):=R3.out.cell 0;have q3_1:wS3.cell? ⟨wR.heap.size,1,none⟩=some (.slice (some ⟨bP,oP,none⟩) vl.length c6):=R3.out.cell 1;clear hzb hr3;clear hg3 hs3)|(refine wpList_loadX rfl 31 (.tmp 23) rfl 2 plc_agg plc_size bP oP rfl (prC p) HCP.out rfl ?_)|(refine wpList_storeC rfl 31 (.tmp 25) (.tmp 24) rfl 2 plc_size (wR.heap.size) 2 115 rfl (comC (1,(u,vl),(0,0)) (.slice (some ⟨bP,oP,none⟩) vl.length c6)) (prC p) rfl R3.out rfl (by show 4≤5;omega) (prC_one _) ?_;intro wS5 hr5 hg5 hs5;replace hr5:RowL wS5 (wR.heap.size) 115 (comC (1,(u,vl),p) (.slice (some ⟨bP,oP,none⟩) vl.length c6)):=hr5;clear q3_0 q3_1;replace HB:=hide (HB.out.grown hg5 (by omega) (pu4 (by omega)));replace R1:=hide (R1.out.grown hg5 (pu5 (by omega)));replace R2:=hide (R2.out.grown hg5 (pu5 (by omega)));replace HU:=hide (und_grown HU.out hg5 (by omega) (by omega));replace HL:=hide (und_grown HL.out hg5 (by omega) (by omega));replace H6:=hide (btw_grown H6.out hg5 (by omega) (by omega));have hsz6:=hg5.size;replace R3:=hide hr5;have q3_0:wS5.cell? ⟨wR.heap.size,0,none⟩=some (.int .i64 u):=R3.out.cell 0;have q3_1:wS5.cell? ⟨wR.heap.size,1,none⟩=some (.slice (some ⟨bP,oP,none⟩) vl.length c6):=R3.out.cell 1;clear hr5 hg5 hs5)|(refine wpList_loadW rfl 115 (.tmp 3) rfl 5 com_agg com_size (wR.heap.size) 115 rfl (comC (1,(u,vl),p) (.slice (some ⟨bP,oP,none⟩) vl.length c6)) R3.out rfl ?_)|(refine wpList_storeW rfl 115 (.tmp 2) (.tmp 26) rfl 5 com_size (w.heap.size+1) 115 rfl (comC noStep (.slice none 0 0)) (comC (1,(u,vl),p) (.slice (some ⟨bP,oP,none⟩) vl.length c6)) rfl R2.out rfl rfl (comC_one _ _ _ _) ?_;intro wS7 hr7 hg7 hs7;clear q3_0 q3_1;replace HB:=hide (HB.out.grown hg7 (by omega) (pu4 (by omega)));replace R1:=hide (R1.out.grown hg7 (pu5 (by omega)));replace HU:=hide (und_grown HU.out hg7 (by omega) (by omega));replace HL:=hide (und_grown HL.out hg7 (by omega) (by omega));replace H6:=hide (btw_grown H6.out hg7 (by omega) (by omega));replace R3:=hide (R3.out.grown hg7 (pu5 (by omega)));have hsz8:=hg7.size;replace R2:=hide hr7;have q3_0:wS7.cell? ⟨wR.heap.size,0,none⟩=some (.int .i64 u):=R3.out.cell 0;have q3_1:wS7.cell? ⟨wR.heap.size,1,none⟩=some (.slice (some ⟨bP,oP,none⟩) vl.length c6):=R3.out.cell 1;clear hr7 hg7 hs7))
   exact bodyPost_ret (res_cell Tryz.results65 rfl com_agg com_size R2.out rfl) rfl ⟨_,c6,rfl,fr_low (fr_btw H6.out (by omega)) (by omega),HB.out⟩
 ·have hu1:(u != 0)=true:=by simpa using hu0
  rw [if_neg hu0]
  clear hu0
  go_enter Tryz.func65,Tryz.ntmps65
  go_wp2_with (first|(refine wpList_loadW rfl 29 (.tmp 1) rfl 6 stk_agg stk_size (w.heap.size) 29 rfl (stkC g (.slice AU nU cU) (.slice AL nL cL)) R1.out rfl ?_)|(go_at_call 76;refine (VRoot_e HV.out W1 HU.out HL.out (by omega) HF.out HFU.out).mono ?_;rintro e1 wR ⟨A6,c6,rfl,h6,hbel⟩;replace HB:=hide (HB.out.trans (hbel.mono HB.out.size));replace R1:=hide (R1.out.on hbel);replace R2:=hide (R2.out.on hbel);replace HU:=hide (HU.out.under hbel (by omega));replace HL:=hide (HL.out.under hbel (by omega));have hsz2:=hbel.size;have H6:=hide h6;clear h6;simp only [viwC];clear hbel)|(refine wpList_storeW rfl 115 (.tmp 3) (.tmp 6) rfl 5 com_size (wR.heap.size) 115 rfl (comC noStep (.slice none 0 0)) (comC (1,(u,vl),(0,0)) (.slice A6 vl.length c6)) rfl (RowL.new wR 115 (comC noStep (.slice none 0 0))) rfl rfl (comC_one _ _ _ _) ?_;intro wS3 hr3 hg3 hs3;have hzb:=below_stored' hg3;replace HB:=hide (HB.out.trans (hzb.mono HB.out.size));replace R1:=hide (R1.out.on hzb);replace R2:=hide (R2.out.on hzb);replace HU:=hide (HU.out.under hzb (by omega));replace HL:=hide (HL.out.under hzb (by omega));replace H6:=hide (btw_on H6.out hzb (by omega));have hsz4:=hzb.size;have R3:=hide hr3;have hlt3:=hr3.lt;have q3_0:wS3.cell? ⟨wR.heap.size,0,none⟩=some (.int .i64 u):=R3.out.cell 0;have q3_1:wS3.cell? ⟨wR.heap.size,1,none⟩=some (.slice A6 vl.length c6):=R3.out.cell 1;clear hzb hr3;clear hg3 hs3)|(refine wpList_storeV rfl 3 (.tmp 13) (Operand.const (Value.int IntKind.i64 1)) rfl int_size (wR.heap.size) 3 115 rfl (.int .i64 1) rfl rfl rfl (comC (1,(u,vl),(0,0)) (.slice A6 vl.length c6)) R3.out (by show 3 < 5;omega) ?_;intro wS5 hr5 hg5 hs5;replace hr5:RowL wS5 (wR.heap.size) 115 (comC (1,(u,vl),(0,1)) (.slice A6 vl.length c6)):=hr5;clear q3_0 q3_1;replace HB:=hide (HB.out.grown hg5 (by omega) (pu4 (by omega)));replace R1:=hide (R1.out.grown hg5 (pu5 (by omega)));replace R2:=hide (R2.out.grown hg5 (pu5 (by omega)));replace HU:=hide (und_grown HU.out hg5 (by omega) (by omega));replace HL:=hide (und_grown HL.out hg5 (by omega) (by omega));replace H6:=hide (btw_grown H6.out hg5 (by omega) (by omega));have hsz6:=hg5.size;replace R3:=hide hr5;have q3_0:wS5.cell? ⟨wR.heap.size,0,none⟩=some (.int .i64 u):=R3.out.cell 0;have q3_1:wS5.cell? ⟨wR.heap.size,1,none⟩=some (.slice A6 vl.length c6):=R3.out.cell 1;clear hr5 hg5 hs5)|(refine wpList_loadW rfl 115 (.tmp 3) rfl 5 com_agg com_size (wR.heap.size) 115 rfl (comC (1,(u,vl),(0,1)) (.slice A6 vl.length c6)) R3.out rfl ?_)|(refine wpList_storeW rfl 115 (.tmp 2) (.tmp 26) rfl 5 com_size (w.heap.size+1) 115 rfl (comC noStep (.slice none 0 0)) (comC (1,(u,vl),(0,1)) (.slice A6 vl.length c6)) rfl R2.out rfl rfl (comC_one _ _ _ _) ?_;intro wS7 hr7 hg7 hs7;clear q3_0 q3_1;replace HB:=hide (HB.out.grown hg7 (by omega) (pu4 (by omega)));replace R1:=hide (R1.out.grown hg7 (pu5 (by omega)));replace HU:=hide (und_grown HU.out hg7 (by omega) (by omega));replace HL:=hide (und_grown HL.out hg7 (by omega) (by omega));replace H6:=hide (btw_grown H6.out hg7 (by omega) (by omega));replace R3:=hide (R3.out.grown hg7 (pu5 (by omega)));have hsz8:=hg7.size;replace R2:=hide hr7;have q3_0:wS7.cell? ⟨wR.heap.size,0,none⟩=some (.int .i64 u):=R3.out.cell 0;have q3_1:wS7.cell? ⟨wR.heap.size,1,none⟩=some (.slice A6 vl.length c6):=R3.out.cell 1;clear hr7 hg7 hs7))
  exact bodyPost_ret (res_cell Tryz.results65 rfl com_agg com_size R2.out rfl) rfl ⟨_,c6,rfl,fr_low (fr_btw H6.out (by omega)) (by omega),HB.out⟩
end Go.Proofs.YtmhiohnkjpglfaaGreat

