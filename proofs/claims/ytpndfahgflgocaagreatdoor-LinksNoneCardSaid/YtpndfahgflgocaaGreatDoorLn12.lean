import Derived.Test.YtpndfahgflgocaaGreatDoorLn11

namespace Go.Proofs.YtpndfahgflgocaaGreatDoor
open Go.RowKit Go.Shelf Plain

theorem bit_one:∀h:Fin 32,(bits .and .i64 (h.1:Int) 1 != 0)=decide ((h.1:Int) % 2=1):=by decide +kernel
theorem bit_one' {h:Int} (h0:0≤h) (h1:h≤31):(bits .and .i64 h 1 != 0)=decide (h % 2=1):=by
 obtain ⟨n,rfl⟩:=Int.eq_ofNat_of_zero_le h0
 exact bit_one ⟨n,by omega⟩
theorem bit_is1:∀h:Fin 32,(bits .and .i64 (h.1:Int) 1==1)=decide ((h.1:Int) % 2=1):=by decide +kernel
theorem bit_is1' {h:Int} (h0:0≤h) (h1:h≤31):(bits .and .i64 h 1==1)=decide (h % 2=1):=by
 obtain ⟨n,rfl⟩:=Int.eq_ofNat_of_zero_le h0
 exact bit_is1 ⟨n,by omega⟩
theorem bit_is2:∀h:Fin 32,(bits .and .i64 (h.1:Int) 2==2)=decide ((h.1:Int) / 2 % 2=1):=by decide +kernel
theorem bit_is2' {h:Int} (h0:0≤h) (h1:h≤31):(bits .and .i64 h 2==2)=decide (h / 2 % 2=1):=by
 obtain ⟨n,rfl⟩:=Int.eq_ofNat_of_zero_le h0
 exact bit_is2 ⟨n,by omega⟩
set_option maxRecDepth 100000 in
set_option maxHeartbeats 1600000 in
theorem NHas_b {x:NodV} {D C:Option Addr} {n c m d:Nat} {q:Int} {b:Bool} (hb:(bits .and .i64 x.att.h q==q)=b) (w:World):Calls Tryz.prog 60 #[.agg (nodC x (.slice D n c) (.slice C m d)).toArray,.int .i64 q] w (BoolB w b):=by
 have r:=RowL.new w 51 (nodC x (.slice D n c) (.slice C m d))
 have hb1:=below_new (below_self w) (.cells (nodC x (.slice D n c) (.slice C m d)).toArray 51)
 obtain ⟨W1,hW1⟩:∃W1,w.alloc (.cells (nodC x (.slice D n c) (.slice C m d)).toArray 51)=W1:=⟨_,rfl⟩
 rw [hW1] at r hb1
 have hW1':w.alloc (.cells #[.int .i64 x.k,.int .i64 x.p,.int .i64 x.n,.int .i64 x.g,.slice D n c,.slice C m d,.int .i64 x.att.h,.int .i64 x.att.o,.string ⟨x.att.r.toArray⟩,.int .i64 x.att.l,.int .i64 x.att.i,.int .i64 x.att.g,.int .i64 x.att.s] 51)=W1:=hW1
 have q6:W1.cell? ⟨w.heap.size,6,none⟩=some (.int .i64 x.att.h):=r.cell 6
 have HB1:=hide hb1
 have HBB:=hide hb
 unfold nodC
 clear r hb1 hW1
 go_enter Tryz.func60,Tryz.ntmps60
 go_wp2
 go_ret
 exact BoolB.of HB1.out
set_option maxRecDepth 100000 in
set_option maxHeartbeats 1600000 in
theorem Marked_b {x:NodV} {D C:Option Addr} {n c m d:Nat} {b:Bool} (hb:opq x=b) (h0:0≤x.att.h) (h1:x.att.h≤31) (w:World):Calls Tryz.prog 145 #[.agg (nodC x (.slice D n c) (.slice C m d)).toArray] w (BoolB w b):=by
 have r:=RowL.new w 51 (nodC x (.slice D n c) (.slice C m d))
 have hb1:=below_new (below_self w) (.cells (nodC x (.slice D n c) (.slice C m d)).toArray 51)
 obtain ⟨W1,hW1⟩:∃W1,w.alloc (.cells (nodC x (.slice D n c) (.slice C m d)).toArray 51)=W1:=⟨_,rfl⟩
 rw [hW1] at r hb1
 have hW1':w.alloc (.cells #[.int .i64 x.k,.int .i64 x.p,.int .i64 x.n,.int .i64 x.g,.slice D n c,.slice C m d,.int .i64 x.att.h,.int .i64 x.att.o,.string ⟨x.att.r.toArray⟩,.int .i64 x.att.l,.int .i64 x.att.i,.int .i64 x.att.g,.int .i64 x.att.s] 51)=W1:=hW1
 have R:=hide r
 have HB1:=hide hb1
 obtain ⟨b1,hb1'⟩:∃b1,(bits .and .i64 x.att.h 1==1)=b1:=⟨_,rfl⟩
 obtain ⟨b2,hb2⟩:∃b2,(x.att.o==121)=b2:=⟨_,rfl⟩
 have e:b=(b1&&b2):=by
  rw [←hb,←hb1',←hb2,bit_is1' h0 h1]
  unfold opq
  congr 1
 have HB1':=hide hb1'
 subst e
 unfold nodC
 clear r hb1 hW1 hb h0 h1 hb1'
 cases b1 <;> cases b2
 all_goals
  go_enter Tryz.func145,Tryz.ntmps145
  go_wp2_with (first|(refine wpList_loadW rfl 51 (.tmp 1) rfl 13 nod_agg nod_size w.heap.size 51 rfl (nodC x (.slice D n c) (.slice C m d)) R.out rfl ?_)|(go_at_call 60;refine (NHas_b HB1'.out _).mono ?_;rintro e w' ⟨rfl,hb3⟩;have q7:w'.cell? ⟨w.heap.size,7,none⟩=some (.int .i64 x.att.o):=(R.out.on hb3).cell 7;have HB3:=hide hb3;clear hb3))
  go_ret
  exact BoolB.of (HB1.out.trans (HB3.out.mono HB1.out.size))
def EntsRet (w:World) (B:Nat) (l:List EntV) (e:Ending) (w':World):Prop:=∃C m d,e=.returned (.slice C m d)∧m≤d∧RdE entEn w' (Under B) C m l∧Below w.heap.size w w'
set_option maxRecDepth 100000 in
set_option maxHeartbeats 4000000 in
theorem Entries_any {A:Option Addr} {n c:Nat} {ns:List NodV} {i:Int} {B:Nat} (w:World) (h:RdE nodEn w (Under B) A n ns) (hB:B≤w.heap.size) (hm:ns.length≤100000) :
  Calls Tryz.prog 46 #[.agg #[.slice A n c],.int .i64 i] w (EntsRet w B (entB ns i)):=by
 have r0:=RowL.new w 26 [.slice A n c]
 have hb1:=below_new (below_self w) (.cells [Value.slice A n c].toArray 26)
 obtain ⟨W1,hW1⟩:∃W1,w.alloc (.cells [Value.slice A n c].toArray 26)=W1:=⟨_,rfl⟩
 rw [hW1] at r0 hb1
 have hW1':w.alloc (.cells #[.slice A n c] 26)=W1:=hW1
 have q0:W1.cell? ⟨w.heap.size,0,none⟩=some (.slice A n c):=r0.cell 0
 have HB1:=hide hb1
 have HL:=hide (h.under hb1 hB)
 have hs1:w.heap.size≤W1.heap.size:=hb1.size
 obtain ⟨x,hx⟩:∃x,nodAt ns i=x:=⟨_,rfl⟩
 have HX:=hide hx
 obtain ⟨bk,hbk⟩:∃bk,(x.k != 1)=bk:=⟨_,rfl⟩
 have HE:=hide (show entB ns i=if bk=true then [] else x.ents from by
  unfold entB
  rw [hx,←hbk]
  by_cases hk:x.k=1 <;> simp [hk])
 clear r0 hb1 hW1 h hx
 rw [HE.out]
 go_enter Tryz.func46,Tryz.ntmps46
 cases bk
 all_goals
  go_wp2_with (first|(go_at_call 36;refine (Of_e HX.out W1 HL.out (Nat.le_trans hB hs1) hm).mono ?_;rintro e w3 ⟨A1,n1,c1,C1,m1,d1,rfl,e2,e3,e4,e5,hb3⟩;have E5:=hide e5;have HB3:=hide (HB1.out.trans (hb3.mono hs1));have hs3:=hb3.size;have HZ:=hide (RowL.new w3 51 (nodC nod0 (.slice none 0 0) (.slice none 0 0)));clear e3 e5 hb3)|(refine wpList_storeW rfl 51 (.tmp 5) (.tmp 8) rfl 13 nod_size w3.heap.size 51 rfl (nodC nod0 (.slice none 0 0) (.slice none 0 0)) (nodC x (.slice A1 n1 c1) (.slice C1 m1 d1)) rfl HZ.out rfl rfl (nodC_one _ _ _ _ _ _ _) ?_;intro w4 hr4 hg4 hs4;have hb4:=below_stored' hg4;have q0:w4.cell? ⟨w3.heap.size,0,none⟩=some (.int .i64 x.k):=hr4.cell 0;have q5:w4.cell? ⟨w3.heap.size,5,none⟩=some (.slice C1 m1 d1):=hr4.cell 5;have HB4:=hide (HB3.out.trans (hb4.mono HB3.out.size));have E6:=hide (E5.out.under hb4 (by omega));clear hr4 hg4 hs4 hb4))
  go_ret
  first|exact ⟨C1,m1,d1,rfl,e4,E6.out,HB4.out⟩|exact ⟨none,0,0,rfl,Nat.le_refl _,RdE.none_ _ _ _ _,HB4.out⟩
end Go.Proofs.YtpndfahgflgocaaGreatDoor

namespace Go.Proofs.YtpndfahgflgocaaGreatDoor
open Go.RowKit Go.Shelf Plain

theorem NLower_e {g:GeoQ} {AU AL:Option Addr} {nU cU nL cL:Nat} {ls:List (List NodV)} {la i:Int} {B:Nat} {x:NodV} (hx:lowAt ls la i=x) (w:World) (h:RdE layEn w (Under B) AL nL ls) (hB:B≤w.heap.size) (hm:ls.length≤100) (hm2:∀ns∈ls,ns.length≤1000) :
  Calls Tryz.prog 93 #[.agg (stkC g (.slice AU nU cU) (.slice AL nL cL)).toArray,.agg #[.int .i64 la,.int .i64 i]] w (NodRet w B x):=by rw [←hx];exact NLower_any w h hB hm hm2
end Go.Proofs.YtpndfahgflgocaaGreatDoor

namespace Go.Proofs.YtpndfahgflgocaaGreatDoor
open Go.RowKit Go.Shelf Plain

theorem prC_one (q:Int×Int):∀v∈prC q,v.oneCell'=true:=by simp [prC,Value.oneCell']
end Go.Proofs.YtpndfahgflgocaaGreatDoor

namespace Go.Proofs.YtpndfahgflgocaaGreatDoor
open Go.RowKit Go.Shelf Plain

section
variable {P : Program} {T T' k k' : Nat}
theorem res_cells {fn : Func} {tmps : Array Value} {w : World} {s g t s' g' t' : Nat} {cs cs' : List Value} (hr : fn.results = #[.cell s T, .cell s' T']) (ht : tmps.getD s undef = .pointer (some ⟨g, 0, none⟩)) (ht' : tmps.getD s' undef = .pointer (some ⟨g', 0, none⟩)) (hag : ∀ w, (isAgg T).run P w = .ok true w) (hsz : ∀ w, (sizeOf T).run P w = .ok k w) (hag' : ∀ w, (isAgg T').run P w = .ok true w) (hsz' : ∀ w, (sizeOf T').run P w = .ok k' w)
  (h:RowL w g t cs) (hk:cs.length=k) (h':RowL w g' t' cs') (hk':cs'.length=k'):(results fn tmps).run P w=.ok (.tuple #[.agg cs.toArray,.agg cs'.toArray]) w:=by
 have hl:=run_loadRow (P:=P) h hk
 have hl':=run_loadRow (P:=P) h' hk'
 have ht1:tmps[s]?.getD undef=.pointer (some ⟨g,0,none⟩):=by simpa using ht
 have ht2:tmps[s']?.getD undef=.pointer (some ⟨g',0,none⟩):=by simpa using ht'
 simp [results,hr,ht1,ht2,hag,hsz,hl,hag',hsz',hl',go_sem]
end
def FirstB (w:World) (B:Nat) (ns:List NodV) (o:Option EntV) (e:Ending) (w':World):Prop:=∃A n c C m d,e=.returned (.tuple #[.agg (cellsE (entO o)).toArray,.agg (nodC (nodB ns o) (.slice A n c) (.slice C m d)).toArray])∧n≤c∧RdE Enc.byte w' (Under B) A n (nodB ns o).data∧m≤d∧RdE entEn w' (Under B) C m (nodB ns o).ents∧Below w.heap.size w w'
def FirstBS (w9:World) (base ge gn r1 r2:Nat) (ec nc:List Value) (W:World):Prop:=RowL W ge 31 ec∧RowL W gn 51 nc∧(∃cu,RowL W r1 31 cu∧cu.length=3)∧(∃cu,RowL W r2 51 cu∧cu.length=13)∧Below base w9 W
theorem FirstBS.drew {w9:World} {base ge gn r1 r2:Nat} {ec nc:List Value} {W:World} (h:FirstBS w9 base ge gn r1 r2 ec nc W):FirstBS w9 base ge gn r1 r2 ec nc W.drew:=⟨h.1,h.2.1,h.2.2.1,h.2.2.2.1,⟨h.2.2.2.2.os,h.2.2.2.2.tape,h.2.2.2.2.output,h.2.2.2.2.size,h.2.2.2.2.block⟩⟩
theorem find_take_none {α:Type} {f:α→Bool} {l:List α} {k:Nat} {x:α} (h:(l.take k).find? f=none) (hx:l[k]?=some x) (hf:f x=false):(l.take (k+1)).find? f=none:=by
 rw [List.take_add_one,hx,List.find?_append,h]
 simp [hf]
theorem find_take_some {α:Type} {f:α→Bool} {l:List α} {k:Nat} {x:α} (h:(l.take k).find? f=none) (hx:l[k]?=some x) (hf:f x=true):l.find? f=some x:=by
 have hk:=(List.getElem?_eq_some_iff.1 hx).1
 have hd:l=l.take k++x::l.drop (k+1):=by
  rw [(List.getElem?_eq_some_iff.1 hx).2.symm,←List.drop_eq_getElem_cons hk,List.take_append_drop]
 rw [hd,List.find?_append,h]
 simp [hf]
set_option maxRecDepth 100000 in
set_option maxHeartbeats 8000000 in
theorem First_any {A:Option Addr} {n c:Nat} {ns:List NodV} {i:Int} {nm:List UInt8} {B:Nat} (w:World) (h:RdE nodEn w (Under B) A n ns) (hB:B≤w.heap.size) (hm:ns.length≤100000) (hel:(entB ns i).length≤100) :
  Calls Tryz.prog 127 #[.agg #[.slice A n c],.int .i64 i,.string ⟨nm.toArray⟩] w (FirstB w B ns (firstB ns i nm)):=by
 obtain ⟨r0,r1,r2,hb4,hs4⟩:=rows3 w [.slice A n c] [.int .i64 0,.int .i64 0,.string ⟨#[]⟩] (nodC nod0 (.slice none 0 0) (.slice none 0 0)) 26 31 51
 obtain ⟨W4,hW4⟩:∃W4,((w.alloc (.cells [Value.slice A n c].toArray 26)).alloc (.cells [Value.int .i64 0,.int .i64 0,.string ⟨#[]⟩].toArray 31)).alloc (.cells (nodC nod0 (.slice none 0 0) (.slice none 0 0)).toArray 51)=W4:=⟨_,rfl⟩
 rw [hW4] at r0 r1 r2 hb4 hs4
 have hW4':((w.alloc (.cells #[.slice A n c] 26)).alloc (.cells #[.int .i64 0,.int .i64 0,.string ⟨#[]⟩] 31)).alloc (.cells #[.int .i64 0,.int .i64 0,.int .i64 0,.int .i64 0,.slice none 0 0,.slice none 0 0,.int .i64 0,.int .i64 0,.string ⟨#[]⟩,.int .i64 0,.int .i64 0,.int .i64 0,.int .i64 0] 51)=W4:=hW4
 have q0:W4.cell? ⟨w.heap.size,0,none⟩=some (.slice A n c):=r0.cell 0
 have R0:=hide r0
 have R1:=hide r1
 have R2:=hide r2
 have HB4:=hide hb4
 have HL:=hide (h.under hb4 hB)
 have hs4l:w.heap.size+3≤W4.heap.size:=by omega
 obtain ⟨EL,hEL⟩:∃EL,entB ns i=EL:=⟨_,rfl⟩
 obtain ⟨FO,hFO⟩:∃FO,firstB ns i nm=FO:=⟨_,rfl⟩
 rw [hFO]
 rw [hEL] at hel
 have HEL:=hide hEL
 have HFO:=hide hFO
 clear r0 r1 r2 hb4 hW4 h hEL hs4 hFO
 go_enter Tryz.func127,Tryz.ntmps127
 go_wp2_with (first|(go_at_call 46;refine (Entries_any W4 HL.out (by omega) hm).mono ?_;rw [HEL.out];rintro e w5 ⟨C,m,d,rfl,hmd,hE,hb5⟩;have HE:=hide hE;have HB5:=hide hb5;clear hE hb5))
 have hEm:=HE.out.1
 have hm16:m≤100:=by omega
 have HEM:=hide hEm
 clear hEm hW4' hel q0
 go_loopw [15] (fun v15 wr=>∃j:Nat,j≤m∧v15=.int .i64 j∧Below w5.heap.size w5 wr∧(EL.take j).find? (useB ns nm)=none) (fun v15 _=>m - (intOf v15).toNat)
 case atStart=>exact ⟨0,by omega,rfl,below_self _,by simp⟩
 case round =>
  obtain ⟨j,hj,rfl,hbr,hnone⟩:=hrel
  have HN:=hide hnone
  have HBR:=hide hbr
  have hbsz:=hbr.size
  have hs5:=HB5.out.size
  have HB4r:=hide (HB5.out.trans (hbr.mono hs5))
  have HBw:=hide (HB4.out.trans (HB4r.out.mono (by omega)))
  clear hnone hbr
  by_cases hlt:j < m
  ·obtain ⟨e,he⟩:∃e,EL[j]?=some e:=⟨_,List.getElem?_eq_getElem (by have:=HEM.out;omega)⟩
   obtain ⟨bE,oE,rfl,hbE,hcE⟩:=ent_get (HE.out.under HBR.out (by omega)) he
   have HCE:=hide hcE
   have HEJ:=hide he
   have HZE:=hide (RowL.new wr 31 [.int .i64 0,.int .i64 0,.string ⟨#[]⟩])
   obtain ⟨x,hx⟩:∃x,nodAt ns e.ino=x:=⟨_,rfl⟩
   have HX:=hide hx
   obtain ⟨b2,hb2⟩:∃b2,(x.k != 0)=b2:=⟨_,rfl⟩
   have hjm:(j:Int) < (m:Int):=by omega
   clear he hcE
   by_cases hnm:e.name=nm
   rotate_left
   ·have HU:=hide (show useB ns nm e=false from by unfold useB;simp [hnm])
    have hnb1:(e.name==nm)=false:=by simpa using hnm
    have hnb2:(e.name != nm)=true:=by simpa using hnm
    have hnb3:¬({data:=e.name.toArray}:ByteArray)={data:=nm.toArray}:=by simpa using hnm
    clear hx
    go_wp2_with (first|(refine wpList_loadX rfl 31 (.tmp 17) rfl 3 entw_agg entw_size bE (oE+j*3) rfl (cellsE e) HCE.out rfl ?_)|(refine wpList_storeW rfl 31 (.tmp 9) (.tmp 18) rfl 3 entw_size wr.heap.size 31 rfl [.int .i64 0,.int .i64 0,.string ⟨#[]⟩] (cellsE e) rfl HZE.out rfl rfl (cellsE_one e) ?_;intro w6 hr6 hg6 hs6;have hb6:=below_stored' hg6;have qe1:w6.cell? ⟨wr.heap.size,1,none⟩=some (.int .i64 e.ino):=hr6.cell 1;have qe2:w6.cell? ⟨wr.heap.size,2,none⟩=some (.string ⟨e.name.toArray⟩):=hr6.cell 2;have qb:w6.cell? ⟨w.heap.size,0,none⟩=some (.slice A n c):=((R0.out.on HB4r.out).on hb6).cell 0;have R6:=hide hr6;have HB6:=hide hb6;clear hr6 hg6 hs6 hb6))
    go_roundw
    case rel=>exact ⟨j+1,by omega,by go_num,HBR.out.trans (HB6.out.mono hbsz),find_take_none HN.out HEJ.out HU.out⟩
    case measure=>simp [intOf];omega
   have HU:=hide (show useB ns nm e=b2 from by
    rw [←hb2,←hx]
    unfold useB
    by_cases hk:(nodAt ns e.ino).k=0 <;> simp [hk,hnm])
   subst hnm
   clear hx
   cases b2
   ·skip
    go_wp2_with (first|(refine wpList_loadX rfl 31 (.tmp 17) rfl 3 entw_agg entw_size bE (oE+j*3) rfl (cellsE e) HCE.out rfl ?_)|(refine wpList_storeW rfl 31 (.tmp 9) (.tmp 18) rfl 3 entw_size wr.heap.size 31 rfl [.int .i64 0,.int .i64 0,.string ⟨#[]⟩] (cellsE e) rfl HZE.out rfl rfl (cellsE_one e) ?_;intro w6 hr6 hg6 hs6;have hb6:=below_stored' hg6;have qe1:w6.cell? ⟨wr.heap.size,1,none⟩=some (.int .i64 e.ino):=hr6.cell 1;have qe2:w6.cell? ⟨wr.heap.size,2,none⟩=some (.string ⟨e.name.toArray⟩):=hr6.cell 2;have qb:w6.cell? ⟨w.heap.size,0,none⟩=some (.slice A n c):=((R0.out.on HB4r.out).on hb6).cell 0;have R6:=hide hr6;have HB6:=hide hb6;clear hr6 hg6 hs6 hb6)|(go_at_call 36;refine (Of_e HX.out w6 (HL.out.under (HB4r.out.trans (HB6.out.mono (by omega))) (by omega)) (by have:=HB6.out.size;omega) hm).mono ?_;rintro ez w8 ⟨A1,n1,c1,C1,m1,d1,rfl,e2,e3,e4,e5,hb8⟩;have E3:=hide e3;have E5:=hide e5;have HB8:=hide hb8;have HZN:=hide (RowL.new w8 51 (nodC nod0 (.slice none 0 0) (.slice none 0 0)));clear e3 e5 hb8)|(refine wpList_storeW rfl 51 (.tmp 10) (.tmp 26) rfl 13 nod_size w8.heap.size 51 rfl (nodC nod0 (.slice none 0 0) (.slice none 0 0)) (nodC x (.slice A1 n1 c1) (.slice C1 m1 d1)) rfl HZN.out rfl rfl (nodC_one _ _ _ _ _ _ _) ?_;intro w9 hr9 hg9 hs9;have hb9:=below_stored' hg9;have qk:w9.cell? ⟨w8.heap.size,0,none⟩=some (.int .i64 x.k):=hr9.cell 0;have R9:=hide hr9;have HB9:=hide (HB6.out.trans ((HB8.out.trans (hb9.mono HB8.out.size)).mono HB6.out.size));have R69:=hide ((R6.out.on HB8.out).on hb9);have hs9l:=hr9.lt;have E39:=hide (E3.out.under hb9 (by have:=HB6.out.size;have:=HB8.out.size;omega));have E59:=hide (E5.out.under hb9 (by have:=HB6.out.size;have:=HB8.out.size;omega));clear hr9 hg9 hs9 hb9))
    go_roundw
    case rel=>exact ⟨j+1,by omega,by go_num,HBR.out.trans (HB9.out.mono hbsz),find_take_none HN.out HEJ.out HU.out⟩
    case measure=>simp [intOf];omega
   ·skip
    go_wp2_with (first|(refine wpList_loadX rfl 31 (.tmp 17) rfl 3 entw_agg entw_size bE (oE+j*3) rfl (cellsE e) HCE.out rfl ?_)|(refine wpList_storeW rfl 31 (.tmp 9) (.tmp 18) rfl 3 entw_size wr.heap.size 31 rfl [.int .i64 0,.int .i64 0,.string ⟨#[]⟩] (cellsE e) rfl HZE.out rfl rfl (cellsE_one e) ?_;intro w6 hr6 hg6 hs6;have hb6:=below_stored' hg6;have qe1:w6.cell? ⟨wr.heap.size,1,none⟩=some (.int .i64 e.ino):=hr6.cell 1;have qe2:w6.cell? ⟨wr.heap.size,2,none⟩=some (.string ⟨e.name.toArray⟩):=hr6.cell 2;have qb:w6.cell? ⟨w.heap.size,0,none⟩=some (.slice A n c):=((R0.out.on HB4r.out).on hb6).cell 0;have R6:=hide hr6;have HB6:=hide hb6;clear hr6 hg6 hs6 hb6)|(go_at_call 36;refine (Of_e HX.out w6 (HL.out.under (HB4r.out.trans (HB6.out.mono (by omega))) (by omega)) (by have:=HB6.out.size;omega) hm).mono ?_;rintro ez w8 ⟨A1,n1,c1,C1,m1,d1,rfl,e2,e3,e4,e5,hb8⟩;have E3:=hide e3;have E5:=hide e5;have HB8:=hide hb8;have HZN:=hide (RowL.new w8 51 (nodC nod0 (.slice none 0 0) (.slice none 0 0)));clear e3 e5 hb8)|(refine wpList_storeW rfl 51 (.tmp 10) (.tmp 26) rfl 13 nod_size w8.heap.size 51 rfl (nodC nod0 (.slice none 0 0) (.slice none 0 0)) (nodC x (.slice A1 n1 c1) (.slice C1 m1 d1)) rfl HZN.out rfl rfl (nodC_one _ _ _ _ _ _ _) ?_;intro w9 hr9 hg9 hs9;have hb9:=below_stored' hg9;have qk:w9.cell? ⟨w8.heap.size,0,none⟩=some (.int .i64 x.k):=hr9.cell 0;have R9:=hide hr9;have HB9:=hide (HB6.out.trans ((HB8.out.trans (hb9.mono HB8.out.size)).mono HB6.out.size));have R69:=hide ((R6.out.on HB8.out).on hb9);have hs9l:=hr9.lt;have E39:=hide (E3.out.under hb9 (by have:=HB6.out.size;have:=HB8.out.size;omega));have E59:=hide (E5.out.under hb9 (by have:=HB6.out.size;have:=HB8.out.size;omega));clear hr9 hg9 hs9 hb9))
    have hsw6:=HB6.out.size
    have hsw8:=HB8.out.size
    have HFS:=hide (show FirstBS w9 w.heap.size wr.heap.size w8.heap.size (w.heap.size+1) (w.heap.size+1+1) (cellsE e) (nodC x (.slice A1 n1 c1) (.slice C1 m1 d1)) w9 from ⟨R69.out,R9.out,⟨_,(R1.out.on HB4r.out).on HB9.out,rfl⟩,⟨_,(R2.out.on HB4r.out).on HB9.out,rfl⟩,Below.refl _ _⟩)
    have hsum:w.heap.size+3≤wr.heap.size:=by omega
    have hs69:w.heap.size≤w9.heap.size:=by omega
    clear qk qe1 qe2 qb
    (try simp only [Act.put])
    refine wp_region_planN (fun w'=>FirstBS w9 w.heap.size wr.heap.size w8.heap.size (w.heap.size+1) (w.heap.size+1+1) (cellsE e) (nodC x (.slice A1 n1 c1) (.slice C1 m1 d1)) w') [(0,true),(1,true),(2,false),(3,false)] (by kernel_rfl) (by kernel_rfl) (by kernel_rfl) (by kernel_rfl) rfl (fun _ _ _ _ _ h=>h) (HFS.out.drew) (fun hHeld=>?_)
    simp only [planOps,List.filterMap_cons,List.filterMap_nil,List.getElem?_toArray,List.getElem?_cons_succ,List.getElem?_cons_zero,Option.map_some]
    refine wpPlan_take (v:=?_) (by kernel_rfl) (fun wS hSw=>?_) ?_
    rotate_left
    ·refine execOp_load (x:=.tmp 9) (k:=3) (g:=wr.heap.size) (off:=0) (cs:=cellsE e) ?_ entw_agg entw_size ?_ (fun j v hv=>by rw [Nat.zero_add];exact (hSw.1.cell j).trans hv) rfl <;> rfl
    (try simp only [Act.put,pu1,pu2,pu3])
    refine wpPlan_take (v:=?_) (by kernel_rfl) (fun wS hSw=>?_) ?_
    rotate_left
    ·refine execOp_load (x:=.tmp 10) (k:=13) (g:=w8.heap.size) (off:=0) (cs:=(nodC x (.slice A1 n1 c1) (.slice C1 m1 d1))) ?_ nod_agg nod_size ?_ (fun j v hv=>by rw [Nat.zero_add];exact (hSw.2.1.cell j).trans hv) rfl <;> rfl
    (try simp only [Act.put,pu1,pu2,pu3])
    refine wpPlan_call (by kernel_rfl) (fun K hK=>?_)
    have hOld:=hide hHeld
    clear hHeld
    obtain ⟨p1,p2,⟨cu3,p3,l3⟩,⟨cu4,p4,l4⟩,p5⟩:=hOld.out
    refine wp_storeC 31 (.tmp 6) (.tmp 30) rfl 3 entw_size (w.heap.size+1) 0 31 rfl cu3 (cellsE e) rfl p3 rfl (by omega) (cellsE_one e) ?_
    intro w' hr' hg' hs'
    rw [splice_all _ _ (by rw [l3];rfl)] at hr'
    refine hK.out _ _ (⟨p1.grown hg' (pu5 (by omega)),p2.grown hg' (pu5 (by omega)),⟨_,hr',rfl⟩,⟨cu4,p4.grown hg' (pu5 (by omega)),l4⟩,p5.grown hg' (by have:=p5.size;omega) (pu4 (by omega))⟩) (fun hHeld=>?_)
    clear hK K
    have HRP:=hide hr'
    clear hr' hg' hs' p1 p2 p3 p4 p5
    (try simp only [Act.put])
    refine wpPlan_call (by kernel_rfl) (fun K hK=>?_)
    have hOld:=hide hHeld
    clear hHeld
    obtain ⟨p1,p2,⟨cu3,p3,l3⟩,⟨cu4,p4,l4⟩,p5⟩:=hOld.out
    refine wp_storeC 51 (.tmp 7) (.tmp 31) rfl 13 nod_size (w.heap.size+1+1) 0 51 rfl cu4 (nodC x (.slice A1 n1 c1) (.slice C1 m1 d1)) rfl p4 rfl (by omega) (nodC_one _ _ _ _ _ _ _) ?_
    intro w' hr' hg' hs'
    rw [splice_all _ _ (by rw [l4];rfl)] at hr'
    refine hK.out _ _ (⟨p1.grown hg' (pu5 (by omega)),p2.grown hg' (pu5 (by omega)),⟨cu3,p3.grown hg' (pu5 (by omega)),l3⟩,⟨_,hr',rfl⟩,p5.grown hg' (by have:=p5.size;omega) (pu4 (by omega))⟩) (fun hHeld=>?_)
    clear hK K
    have HRP2:=hide (HRP.out.grown hg' (pu5 (by omega)))
    have HRN:=hide hr'
    clear hr' hg' hs' p1 p2 p3 p4 p5
    (try simp only [Act.put])
    refine wpPlan_end ?_
    have HSF:=hide hHeld
    clear hHeld
    go_wp2_with fail
    obtain ⟨-,-,-,-,hbF⟩:=HSF.out
    have eFO:FO=some e:=by
     rw [←HFO.out]
     unfold firstB
     rw [HEL.out,find_take_some HN.out HEJ.out HU.out]
    have hkU:Kept (Under B) w9 w':=fun b hb=>hbF.block b (Nat.lt_of_lt_of_le hb hB)
    subst eFO
    have hx2:nodB ns (some e)=x:=HX.out
    refine bodyPost_ret (res_cells Tryz.results127 rfl rfl entw_agg entw_size nod_agg nod_size HRP2.out rfl HRN.out rfl) rfl ⟨A1,n1,c1,C1,m1,d1,by rw [hx2];rfl,e2,by rw [hx2];exact E39.out.mono hkU (fun _ h=>h),e4,by rw [hx2];exact E59.out.mono hkU (fun _ h=>h),(HBw.out.trans (HB9.out.mono (by omega))).trans hbF⟩
  ·obtain rfl:j=m:=by omega
   have HR1:=hide (R1.out.on HB4r.out)
   have HR2:=hide (R2.out.on HB4r.out)
   go_wp2_with (first|(refine wpList_storeW rfl 31 (.tmp 6) (.tmp 33) rfl 3 entw_size (w.heap.size+1) 31 rfl [.int .i64 0,.int .i64 0,.string ⟨#[]⟩] (cellsE ent0) rfl HR1.out rfl rfl (cellsE_one ent0) ?_;intro w6 hr6 hg6 hs6;have R6:=hide hr6;have R36:=hide (HR2.out.grown hg6 (pu5 (by omega)));have HB6:=hide (HBw.out.grown hg6 (by omega) (pu4 (by omega)));clear hr6 hg6)|(refine wpList_storeW rfl 51 (.tmp 7) (.tmp 34) rfl 13 nod_size (w.heap.size+1+1) 51 rfl (nodC nod0 (.slice none 0 0) (.slice none 0 0)) (nodC nod0 (.slice none 0 0) (.slice none 0 0)) rfl R36.out rfl rfl (nodC_one nod0 none none 0 0 0 0) ?_;intro w7 hr7 hg7 hs7;have R7:=hide hr7;have R67:=hide (R6.out.grown hg7 (pu5 (by omega)));have HB7:=hide (HB6.out.grown hg7 (by omega) (pu4 (by omega)));clear hr7 hg7))
   have eFO:FO=none:=by
    rw [←HFO.out]
    unfold firstB
    have h1:=HN.out
    rw [List.take_of_length_le (by have:=HEM.out;omega)] at h1
    rw [HEL.out,h1]
   subst eFO
   exact bodyPost_ret (res_cells Tryz.results127 rfl rfl entw_agg entw_size nod_agg nod_size R67.out rfl R7.out rfl) rfl ⟨none,0,0,none,0,0,rfl,Nat.le_refl _,RdE.none_ _ _ _ _,Nat.le_refl _,RdE.none_ _ _ _ _,HB7.out⟩
end Go.Proofs.YtpndfahgflgocaaGreatDoor

