import Derived.Test.YtpndfahgflgocaaGreatDoorLn13
import Derived.Test.YtpndfahgflgocaaGreatDoorLn5

namespace Go.Proofs.YtpndfahgflgocaaGreatDoor
open Go.RowKit Go.Shelf Plain

theorem wp_scope_one {P : Program} {a : Act} {w : World} {Q : Exit → Act → World → Prop} {c rest : Code} (l : Nat) (J : Act → World → Prop) (hf : findLabel c l = some (Code.skip.seq rest))
  (pass:∀a w,J a w→rest.wp P (Exit.jump l (fun _ _=>False) Q) a w)
  (first:c.wp P (Exit.jump l J Q) a w):(Code.scope c).wp P Q a w:=by
 refine wp_scope_jumps l J (fun _ _=>0) hf first (fun a w h=>wp_seq (wp_skip (Code.wp_mono (fun e a' w' hq=>?_) (pass a w h))))
 cases e with
 | goto l'=>exact (hq.2:False).elim
 | normal=>exact hq
 | exit id=>exact hq
 | ret=>exact hq
 | panic ch=>exact hq
 | outgrown=>exact hq
def FindRet (w:World) (R:Int×List (Int×Int)) (e:Ending) (w':World):Prop:=∃A c,e=.returned (.tuple #[.int .i64 R.1,.slice A R.2.length c])∧R.2.length≤c∧RdE prEn w' (fun b=>w.heap.size≤b∧b < w'.heap.size) A R.2.length R.2∧Below w.heap.size w w'
def kindA (acc:List (Int×Int)):Int:=if acc=[] then 0 else 1
theorem kindA_snoc (acc:List (Int×Int)) (x:Int×Int):kindA (acc++[x])=1:=by simp [kindA]
theorem findL_end (ls:List (List NodV)) (nm:List UInt8) (acc:List (Int×Int)):findL ls nm [] acc=(kindA acc,acc):=by
 unfold findL kindA
 by_cases h:acc=[]
 ·simp [h]
 ·simp [h]
def FindSt (base:Nat) (w1:World) (ls:List (List NodV)) (nm:List UInt8) (l:List (Int×Int)) (R:Int×List (Int×Int)) (j:Nat) (acc:List (Int×Int)) (A:Option Addr) (c:Nat) (W:World):Prop:=W.ownsRow base 75 2 (.slice A acc.length c) acc.length (flatR acc)∧Below base w1 W∧acc.length≤j∧findL ls nm (l.drop j) acc=R
theorem pr_fresh {W:World} {base t n c:Nat} {A:Option Addr} {l:List (Int×Int)} (h:W.ownsRow base t 2 (.slice A n c) n (flatR l)) (hn:l.length=n):RdE prEn W (fun b=>base≤b∧b < W.heap.size) A n l:=by
 refine ⟨hn,fun h0=>?_⟩
 rcases h.2 with ⟨_,h0'⟩|⟨g,cap,cur,he,hb,hg,_⟩
 ·omega
 ·simp only [Value.slice.injEq] at he
  obtain ⟨rfl,-,-⟩:=he
  refine ⟨g,0,rfl,⟨hb,heap_lt hg⟩,fun i x hx=>⟨prC x,rfl,fun j v hv=>?_⟩⟩
  have hj:j < 2:=by have:=(List.getElem?_eq_some_iff.1 hv).1;simpa [prC] using this
  have hi:=(List.getElem?_eq_some_iff.1 hx).1
  rw [Nat.zero_add]
  refine (World.ownsRow.cellAt (g:=g) h (i*2+j) (by omega)).trans ?_
  have:=flat_get (k:=2) (css:=l.map prC) (fun cs hc=>by obtain ⟨z,_,rfl⟩:=List.mem_map.1 hc;rfl) (i:=i) (j:=j) (cs:=prC x) (by rw [List.getElem?_map,hx];rfl) hj
  rw [show flatR l=(l.map prC).flatten from rfl,this]
  exact hv
theorem pr_get {w:World} {D:Nat→Prop} {A:Option Addr} {n k:Nat} {l:List (Int×Int)} {x:Int×Int} (h:RdE prEn w D A n l) (hx:l[k]?=some x):∃b o,A=some ⟨b,o,none⟩∧D b∧∀j v,(prC x)[j]?=some v→w.cell? ⟨b,o+k*2+j,none⟩=some v:=by
 have hi:=(List.getElem?_eq_some_iff.1 hx).1
 obtain ⟨b,o,e,hb,hc⟩:=h.2 (by have:=h.1;omega)
 obtain ⟨cs,hcs,hcell⟩:=hc k x hx
 obtain rfl:cs=prC x:=hcs
 refine ⟨b,o,e,hb,fun j v hv=>?_⟩
 have:=hcell j v hv
 rwa [show o+(k*prEn.k+j)=o+k*2+j from by show o+(k*2+j)=o+k*2+j;omega] at this
theorem pr_lit1 (W:World) (t:Nat) (x:Int×Int) {B:Nat} (hB:B≤W.heap.size):RdE prEn (W.alloc (.cells (prC x).toArray t)) (fun b=>B≤b∧b < (W.alloc (.cells (prC x).toArray t)).heap.size) (some ⟨W.heap.size,0,none⟩) 1 [x]:=by
 refine ⟨rfl,fun _=>⟨_,_,rfl,⟨hB,by simp⟩,fun i y hy=>⟨prC y,rfl,fun j v hv=>?_⟩⟩⟩
 have hi:i=0:=by have:=(List.getElem?_eq_some_iff.1 hy).1;simpa using this
 subst hi
 obtain rfl:x=y:=by simpa using hy
 rw [Nat.zero_mul,Nat.zero_add,Nat.zero_add,(RowL.new W t (prC x)).cell]
 exact hv
set_option maxRecDepth 100000 in
theorem plc_info:(Tryz.prog.info? 75).map (fun i=>(i.zero,i.size,i.bytes))=some (some zpr,2,16):=by kernel_rfl
theorem lit_plc (q:Int×Int) (W:World):(Instr.buildSlice 118 1 #[(0,.agg (prC q).toArray)]).run Tryz.prog W=.ok (.slice (some ⟨W.heap.size,0,none⟩) 1 1) (W.alloc (.cells (prC q).toArray 75)):=by
 obtain ⟨it,hi,hz,hsz,-⟩:=info_parts plc_info
 refine run_buildSlice W _ 75 1 _ _ it zpr Tryz.underlying118 hi hz (by omega) (by omega) ?_
 rw [hsz]
 have:=Great.fill_whole (s:=2) (by omega) [.agg (prC q).toArray] ((Array.range (1*2)).map (zpr.cells[· % zpr.cells.size]!)) (by intro v hv;rw [List.mem_singleton] at hv;subst hv;simp [Value.cells,prC]) (by simp)
 simpa [Value.cells] using this
theorem own_capP {W:World} {base e s n c:Nat} {A:Option Addr} {xs:List Value} (h:W.ownsRow base e s (.slice A n c) n xs):n≤c:=by
 rcases h.2 with ⟨h0,h1⟩|⟨g,cap,cur,h1,_,_,h4,_⟩
 ·omega
 ·cases h1;exact h4
theorem LFirst_e {g:GeoQ} {AU AL:Option Addr} {nU cU nL cL:Nat} {ls:List (List NodV)} {p:Int×Int} {nm:List UInt8} {B:Nat} {o:Option (Int×Int)} (ho:firstL ls p nm=o) (w:World) (h:RdE layEn w (Under B) AL nL ls) (hB:B≤w.heap.size) (hm:ls.length≤100) (hm2:∀ns∈ls,ns.length≤1000) (hF:FewL ls) :
  Calls Tryz.prog 168 #[.agg (stkC g (.slice AU nU cU) (.slice AL nL cL)).toArray,.agg (prC p).toArray,.string ⟨nm.toArray⟩] w (FirstRet w B ls p.1 o):=by rw [←ho];exact LFirst_any w h hB hm hm2 hF
set_option maxRecDepth 100000 in
set_option maxHeartbeats 8000000 in
theorem Find_any {g:GeoQ} {AU AL AP:Option Addr} {nU cU nL cL n cP:Nat} {ls:List (List NodV)} {l:List (Int×Int)} {nm:List UInt8} {B:Nat} (w:World) (h:RdE layEn w (Under B) AL nL ls) (hp:RdE prEn w (Under w.heap.size) AP n l) (hB:B≤w.heap.size) (hF:FewL ls) (hn:n≤1000) :
  Calls Tryz.prog 147 #[.agg (stkC g (.slice AU nU cU) (.slice AL nL cL)).toArray,.slice AP n cP,.string ⟨nm.toArray⟩] w (FindRet w (findL ls nm l [])):=by
 have r0:=RowL.new w 29 (stkC g (.slice AU nU cU) (.slice AL nL cL))
 have hb1:=below_new (below_self w) (.cells (stkC g (.slice AU nU cU) (.slice AL nL cL)).toArray 29)
 obtain ⟨W1,hW1⟩:∃W1,w.alloc (.cells (stkC g (.slice AU nU cU) (.slice AL nL cL)).toArray 29)=W1:=⟨_,rfl⟩
 rw [hW1] at r0 hb1
 have hW1':w.alloc (.cells #[.int .i64 g.a,.int .i64 g.b,.int .i64 g.c,.int .i64 g.d,.slice AU nU cU,.slice AL nL cL] 29)=W1:=hW1
 have hm:ls.length≤100:=by have:=hF.1;omega
 have HM2:=hide (fun ns (hh:ns∈ls)=>(show ns.length≤1000 from Nat.le_trans (hF.2 ns hh).1 (by omega)))
 have R0:=hide r0
 have HB1:=hide hb1
 have hs1:=hb1.size
 have HL:=hide (h.under hb1 hB)
 have HP:=hide (hp.on hb1)
 have HPL:=hide hp.1
 have HF:=hide hF
 obtain ⟨R,hR⟩:∃R,findL ls nm l []=R:=⟨_,rfl⟩
 rw [hR]
 have HR:=hide hR
 have hB1:B≤W1.heap.size:=by omega
 unfold stkC
 clear r0 hb1 hW1 h hp hF hR
 go_enter Tryz.func147,Tryz.ntmps147
 go_wp2_with fail
 refine wp_scope_one 0 (fun a' w'=>∃(A:Option Addr) (c:Nat) (u0 u1 u2 u3 u4 u5 u6 u7 u10 u11 u12 u13 u14 u15 u16 u17 u18 u19 u20 u21 u22 u23 u24 u25 u26 u27 u28 u29 u30 u31 u32 u33 u34 u35 u36 u37 u38 u39 u40 u41 u42 u43 u44 u45 u46 u47 u48 u49 u50:Value),a'={tmps:=#[u0,u1,u2,u3,u4,u5,u6,u7,.int .i64 R.1,.slice A R.2.length c,u10,u11,u12,u13,u14,u15,u16,u17,u18,u19,u20,u21,u22,u23,u24,u25,u26,u27,u28,u29,u30,u31,u32,u33,u34,u35,u36,u37,u38,u39,u40,u41,u42,u43,u44,u45,u46,u47,u48,u49,u50],defers:=[]}∧R.2.length≤c∧RdE prEn w' (fun b=>w.heap.size≤b∧b < w'.heap.size) A R.2.length R.2∧Below w.heap.size w w') rfl ?_ ?_
 ·rintro a' w' ⟨A,c,u0,u1,u2,u3,u4,u5,u6,u7,u10,u11,u12,u13,u14,u15,u16,u17,u18,u19,u20,u21,u22,u23,u24,u25,u26,u27,u28,u29,u30,u31,u32,u33,u34,u35,u36,u37,u38,u39,u40,u41,u42,u43,u44,u45,u46,u47,u48,u49,u50,rfl,hc,hr,hb⟩
  have HB:=hide hb
  have HRD:=hide hr
  clear hb hr
  go_wp2_with fail
  (first|go_ret2|(simp only [Exit.jump];go_ret2)|(rw [Exit.noGoto_ret];go_ret2))
  exact ⟨A,c,rfl,hc,HRD.out,HB.out⟩
 go_wp2_with fail
 clear hW1'
 go_loopw [8,9,16] (fun v8 v9 v16 wr=>∃(j:Nat) (acc:List (Int×Int)) (A:Option Addr) (c:Nat),j≤n∧v16=.int .i64 j∧v8=.int .i64 (kindA acc)∧v9=.slice A acc.length c∧FindSt W1.heap.size W1 ls nm l R j acc A c wr) (fun _ _ v16 _=>n - (intOf v16).toNat)
 case atStart=>exact ⟨0,[],none,0,by omega,rfl,rfl,rfl,World.ownsRow_nil _ _ _ _,below_self _,Nat.le_refl _,by rw [List.drop_zero];exact HR.out⟩
 case round =>
  obtain ⟨j,acc,A,c,hj,rfl,rfl,rfl,hown,hbr,hal,hfin⟩:=hrel
  have HOW:=hide hown
  have HBR:=hide hbr
  have HFI:=hide hfin
  have hbsz:=hbr.size
  have HBw:=hide (HB1.out.trans (hbr.mono hs1))
  clear hown hbr hfin
  by_cases hlt:j < n
  ·obtain ⟨p,hp⟩:∃p,l[j]?=some p:=⟨_,List.getElem?_eq_getElem (by have:=HPL.out;omega)⟩
   obtain ⟨bP,oP,rfl,hbP,hcP⟩:=pr_get (HP.out.under HBR.out (Nat.le_refl _)) hp
   have HCP:=hide hcP
   have HZP:=hide (RowL.new wr 75 (prC (0,0)))
   have HDR:=hide (show l.drop j=p::l.drop (j+1) from by
    have hjl:=(List.getElem?_eq_some_iff.1 hp).1
    rw [List.drop_eq_getElem_cons hjl,(List.getElem?_eq_some_iff.1 hp).2])
   have hjn:(j:Int) < (n:Int):=by omega
   obtain ⟨o,ho⟩:∃o,firstL ls p nm=o:=⟨_,rfl⟩
   have HO:=hide ho
   obtain ⟨N,hN⟩:∃N,nodO ls o=N:=⟨_,rfl⟩
   have hPN:PlainN N:=by
    rw [←hN]
    cases o with
    | none=>exact plain0
    | some x=>exact low_plain HF.out x.1 x.2
   have HNN:=hide hN
   obtain ⟨kk,hkk⟩:∃kk,N.k=kk:=⟨_,rfl⟩
   have hkr:=hPN.2.1
   have hath:=hPN.2.2.1
   rw [hkk] at hkr
   have HKK:=hide hkk
   clear hp hcP ho hN hPN hkk
   rcases (show kk=0∨kk=1∨kk=2∨kk=3∨kk=4 by omega) with rfl|rfl|rfl|rfl|rfl
   ·-- nothing
    go_wp2_with (first|(refine wpList_loadX rfl 75 (.tmp 18) rfl 2 plc_agg plc_size bP (oP+j*2) rfl (prC p) HCP.out rfl ?_)|(refine wpList_storeW rfl 75 (.tmp 11) (.tmp 19) rfl 2 plc_size wr.heap.size 75 rfl (prC (0,0)) (prC p) rfl HZP.out rfl rfl (prC_one _) ?_;intro w6 hr6 hg6 hs6;have hb6:=below_stored' hg6;have R6:=hide hr6;have HB6:=hide hb6;have R06:=hide ((R0.out.on HBR.out).on hb6);have hs6l:=hb6.size;clear hr6 hg6 hs6 hb6)|(refine wpList_loadW rfl 29 (.tmp 3) rfl 6 stk_agg stk_size w.heap.size 29 rfl (stkC g (.slice AU nU cU) (.slice AL nL cL)) R06.out rfl ?_)|(refine wpList_loadW rfl 75 (.tmp 11) rfl 2 plc_agg plc_size wr.heap.size 75 rfl (prC p) R6.out rfl ?_)|(go_at_call 168;refine (LFirst_e HO.out w6 (HL.out.under (HBR.out.trans (HB6.out.mono hbsz)) hB1) (by omega) hm HM2.out HF.out).mono ?_;rintro ez w7 ⟨A1,n1,c1,C1,m1,d1,rfl,e2,e3,e4,e5,hb7⟩;have HB7:=hide (HB6.out.trans (hb7.mono hs6l));obtain ⟨r12,r13,hbz,hsz⟩:=rows2 w7 (prC (0,0)) (nodC nod0 (.slice none 0 0) (.slice none 0 0)) 75 51;have HZ12:=hide r12;have HZ13:=hide r13;have HBZ:=hide hbz;have hs7l:=hb7.size;clear e3 e5 hb7 r12 r13 hbz hsz)|(refine wpList_storeW rfl 75 (.tmp 12) (.tmp 25) rfl 2 plc_size w7.heap.size 75 rfl (prC (0,0)) (prC (plcF p.1 o)) rfl HZ12.out rfl rfl (prC_one _) ?_;intro w8 hr8 hg8 hs8;have R8:=hide hr8;have HZ13':=hide (HZ13.out.grown hg8 (pu5 (by omega)));have HB8:=hide (HBZ.out.grown hg8 HBZ.out.size (pu4 (by omega)));clear hr8 hg8 hs8)|(refine wpList_storeW rfl 51 (.tmp 13) (.tmp 26) rfl 13 nod_size (w7.heap.size+1) 51 rfl (nodC nod0 (.slice none 0 0) (.slice none 0 0)) (nodC (nodO ls o) (.slice A1 n1 c1) (.slice C1 m1 d1)) rfl HZ13'.out rfl rfl (nodC_one _ _ _ _ _ _ _) ?_;intro w9 hr9 hg9 hs9;rw [HNN.out] at hr9;have qk:w9.cell? ⟨w7.heap.size+1,0,none⟩=some (.int .i64 0):=(hr9.cell 0).trans (by rw [show (nodC N (.slice A1 n1 c1) (.slice C1 m1 d1))[0]?=some (.int .i64 N.k) from rfl,HKK.out]);have HR13:=hide hr9;have HR12:=hide (R8.out.grown hg9 (pu5 (by omega)));have HB79:=hide (HB8.out.grown hg9 (by have:=HB8.out.size;omega) (pu4 (by omega)));have HB9:=hide (HB7.out.trans (HB79.out.mono HB7.out.size));have hs9l:=HB9.out.size;have hs79l:=hr9.lt;clear hr9 hg9 hs9))
    have eo:o=none:=by
     cases o with
     | none=>rfl
     | some x=>exact absurd (show (lowAt ls x.1 x.2).k=0 from by rw [show lowAt ls x.1 x.2=N from HNN.out];exact HKK.out) (first_use HO.out)
    subst eo
    go_roundw
    case rel=>exact ⟨j+1,acc,A,c,by omega,by go_num,rfl,rfl,ownsRow_below HOW.out HB9.out,HBR.out.trans (HB9.out.mono hbsz),by omega,by
     have e:=HFI.out
     rw [HDR.out] at e
     unfold findL at e
     rw [HO.out] at e
     exact e⟩
    case measure=>simp [intOf];omega
   ·-- a directory
    obtain ⟨x,rfl⟩:∃x,o=some x:=by
     cases o with
     | none=>exact absurd HKK.out (by rw [←HNN.out];simp [nodO,nod0])
     | some x=>exact ⟨x,rfl⟩
    have hNx:lowAt ls x.1 x.2=N:=HNN.out
    have HNX:=hide hNx
    clear hNx
    obtain ⟨op,hop⟩:∃op,opq N=op:=⟨_,rfl⟩
    have HOPQ:=hide hop
    clear hop
    go_wp2_with (first|(refine wpList_loadX rfl 75 (.tmp 18) rfl 2 plc_agg plc_size bP (oP+j*2) rfl (prC p) HCP.out rfl ?_)|(refine wpList_storeW rfl 75 (.tmp 11) (.tmp 19) rfl 2 plc_size wr.heap.size 75 rfl (prC (0,0)) (prC p) rfl HZP.out rfl rfl (prC_one _) ?_;intro w6 hr6 hg6 hs6;have hb6:=below_stored' hg6;have R6:=hide hr6;have HB6:=hide hb6;have R06:=hide ((R0.out.on HBR.out).on hb6);have hs6l:=hb6.size;clear hr6 hg6 hs6 hb6)|(refine wpList_loadW rfl 29 (.tmp 3) rfl 6 stk_agg stk_size w.heap.size 29 rfl (stkC g (.slice AU nU cU) (.slice AL nL cL)) R06.out rfl ?_)|(refine wpList_loadW rfl 75 (.tmp 11) rfl 2 plc_agg plc_size wr.heap.size 75 rfl (prC p) R6.out rfl ?_)|(go_at_call 168;refine (LFirst_e HO.out w6 (HL.out.under (HBR.out.trans (HB6.out.mono hbsz)) hB1) (by omega) hm HM2.out HF.out).mono ?_;rintro ez w7 ⟨A1,n1,c1,C1,m1,d1,rfl,e2,e3,e4,e5,hb7⟩;have HB7:=hide (HB6.out.trans (hb7.mono hs6l));obtain ⟨r12,r13,hbz,hsz⟩:=rows2 w7 (prC (0,0)) (nodC nod0 (.slice none 0 0) (.slice none 0 0)) 75 51;have HZ12:=hide r12;have HZ13:=hide r13;have HBZ:=hide hbz;have hs7l:=hb7.size;clear e3 e5 hb7 r12 r13 hbz hsz)|(refine wpList_storeW rfl 75 (.tmp 12) (.tmp 25) rfl 2 plc_size w7.heap.size 75 rfl (prC (0,0)) (prC (plcF p.1 (some x))) rfl HZ12.out rfl rfl (prC_one _) ?_;intro w8 hr8 hg8 hs8;have R8:=hide hr8;have HZ13':=hide (HZ13.out.grown hg8 (pu5 (by omega)));have HB8:=hide (HBZ.out.grown hg8 HBZ.out.size (pu4 (by omega)));clear hr8 hg8 hs8)|(refine wpList_storeW rfl 51 (.tmp 13) (.tmp 26) rfl 13 nod_size (w7.heap.size+1) 51 rfl (nodC nod0 (.slice none 0 0) (.slice none 0 0)) (nodC (nodO ls (some x)) (.slice A1 n1 c1) (.slice C1 m1 d1)) rfl HZ13'.out rfl rfl (nodC_one _ _ _ _ _ _ _) ?_;intro w9 hr9 hg9 hs9;rw [HNN.out] at hr9;have qk:w9.cell? ⟨w7.heap.size+1,0,none⟩=some (.int .i64 1):=(hr9.cell 0).trans (by rw [show (nodC N (.slice A1 n1 c1) (.slice C1 m1 d1))[0]?=some (.int .i64 N.k) from rfl,HKK.out]);have HR13:=hide hr9;have HR12:=hide (R8.out.grown hg9 (pu5 (by omega)));have HB79:=hide (HB8.out.grown hg9 (by have:=HB8.out.size;omega) (pu4 (by omega)));have HB9:=hide (HB7.out.trans (HB79.out.mono HB7.out.size));have hs9l:=HB9.out.size;have hs79l:=hr9.lt;clear hr9 hg9 hs9)|(refine wpList_loadW rfl 75 (.tmp 12) rfl 2 plc_agg plc_size w7.heap.size 75 rfl (prC x) HR12.out rfl ?_)|(refine wpList_litW rfl 118 (.tmp 43) rfl (.agg (prC x).toArray) _ rfl (lit_plc x w9) ?_;refine wpList_plain rfl fun K2 hK2=>?_;go_loud (refine wp_appF w9 W1.heap.size _ rfl (.tmp 42) (.tmp 44) 118 75 rfl Tryz.underlying118 _ 2 16 plc_info rfl (by omega) (by omega) A acc.length c _ (prC x) rfl (prC_one x) rfl (ownsRow_below HOW.out HB9.out) rfl (by omega) (by omega) ?_);intro A5 c5 w10 ho10 hg10;refine hK2 _ _ ?_;clear hK2 K2;have HO10:=hide ho10;have HG10:=hide hg10;have hba:=below_new (below_self w9) (.cells (prC x).toArray 75);have hoa:=ownsRow_below (ownsRow_below HOW.out HB9.out) hba;have HR13b:=hide ((HR13.out.on hba).grown hg10 (row_apart hoa (HR13.out.on hba) (by decide)));have HB10:=hide (((HBR.out.trans (HB9.out.mono hbsz)).trans (hba.mono (by omega))).grown hg10 (by have:=hba.size;omega) (fun q hq=>(own_block hoa q hq).1));clear ho10 hg10 hba hoa)|(refine wpList_loadW rfl 51 (.tmp 13) rfl 13 nod_agg nod_size (w7.heap.size+1) 51 rfl (nodC N (.slice A1 n1 c1) (.slice C1 m1 d1)) HR13b.out rfl ?_))
    refine (Marked_b HOPQ.out hath.1 hath.2 _).mono ?_
    rintro ez w11 ⟨rfl,hb11⟩
    have HO11:=hide (ownsRow_below HO10.out hb11)
    have HB11:=hide (HB10.out.trans (hb11.mono (by have:=HB10.out.size;omega)))
    clear hb11
    have e:=HFI.out
    rw [HDR.out] at e
    unfold findL at e
    rw [HO.out] at e
    simp only [HNX.out,HKK.out,HOPQ.out,if_true] at e
    have HE:=hide e
    clear e
    have hka:=kindA_snoc acc x
    have hlen:(acc++[x]).length=acc.length+1:=by simp
    have HLEN:=hide hlen
    have HKA:=hide hka
    clear hka hlen
    cases op with
    | false =>
     go_wp2_with fail
     go_roundw
     case rel=>exact ⟨j+1,acc++[x],A5,c5,by omega,by go_num,by rw [HKA.out],by rw [HLEN.out],by rw [HLEN.out,flatR_snoc];exact HO11.out,HB11.out,by rw [HLEN.out];omega,by simpa using HE.out⟩
     case measure=>simp [intOf];omega
    | true =>
     have hE:R=(1,acc++[x]):=by simpa using HE.out.symm
     subst hE
     go_wp2_with fail
     rw [show acc.length+1=(acc++[x]).length from HLEN.out.symm]
     go_step3
     exact ⟨rfl,A5,c5,_,_,_,_,_,_,_,_,_,_,_,_,_,_,_,_,_,_,_,_,_,_,_,_,_,_,_,_,_,_,_,_,_,_,_,_,_,_,_,_,_,_,_,_,_,_,_,_,_,rfl,own_capP (by rw [HLEN.out];exact HO11.out),(pr_fresh (by rw [HLEN.out,flatR_snoc];exact HO11.out) rfl).mono (fun _ _=>rfl) (fun b hb=>⟨by omega,hb.2⟩),(HB1.out.trans (HB11.out.mono hs1))⟩
   ·-- a file
    obtain ⟨x,rfl⟩:∃x,o=some x:=by
     cases o with
     | none=>exact absurd HKK.out (by rw [←HNN.out];simp [nodO,nod0])
     | some x=>exact ⟨x,rfl⟩
    have hNx:lowAt ls x.1 x.2=N:=HNN.out
    have HNX:=hide hNx
    clear hNx
    have e:=HFI.out
    rw [HDR.out] at e
    unfold findL at e
    rw [HO.out] at e
    simp only [HNX.out,HKK.out] at e
    by_cases ha:acc=[]
    ·subst ha
     simp at e
     subst e
     rw [show kindA []=0 from rfl]
     go_wp2_with (first|(refine wpList_loadX rfl 75 (.tmp 18) rfl 2 plc_agg plc_size bP (oP+j*2) rfl (prC p) HCP.out rfl ?_)|(refine wpList_storeW rfl 75 (.tmp 11) (.tmp 19) rfl 2 plc_size wr.heap.size 75 rfl (prC (0,0)) (prC p) rfl HZP.out rfl rfl (prC_one _) ?_;intro w6 hr6 hg6 hs6;have hb6:=below_stored' hg6;have R6:=hide hr6;have HB6:=hide hb6;have R06:=hide ((R0.out.on HBR.out).on hb6);have hs6l:=hb6.size;clear hr6 hg6 hs6 hb6)|(refine wpList_loadW rfl 29 (.tmp 3) rfl 6 stk_agg stk_size w.heap.size 29 rfl (stkC g (.slice AU nU cU) (.slice AL nL cL)) R06.out rfl ?_)|(refine wpList_loadW rfl 75 (.tmp 11) rfl 2 plc_agg plc_size wr.heap.size 75 rfl (prC p) R6.out rfl ?_)|(go_at_call 168;refine (LFirst_e HO.out w6 (HL.out.under (HBR.out.trans (HB6.out.mono hbsz)) hB1) (by omega) hm HM2.out HF.out).mono ?_;rintro ez w7 ⟨A1,n1,c1,C1,m1,d1,rfl,e2,e3,e4,e5,hb7⟩;have HB7:=hide (HB6.out.trans (hb7.mono hs6l));obtain ⟨r12,r13,hbz,hsz⟩:=rows2 w7 (prC (0,0)) (nodC nod0 (.slice none 0 0) (.slice none 0 0)) 75 51;have HZ12:=hide r12;have HZ13:=hide r13;have HBZ:=hide hbz;have hs7l:=hb7.size;clear e3 e5 hb7 r12 r13 hbz hsz)|(refine wpList_storeW rfl 75 (.tmp 12) (.tmp 25) rfl 2 plc_size w7.heap.size 75 rfl (prC (0,0)) (prC (plcF p.1 (some x))) rfl HZ12.out rfl rfl (prC_one _) ?_;intro w8 hr8 hg8 hs8;have R8:=hide hr8;have HZ13':=hide (HZ13.out.grown hg8 (pu5 (by omega)));have HB8:=hide (HBZ.out.grown hg8 HBZ.out.size (pu4 (by omega)));clear hr8 hg8 hs8)|(refine wpList_storeW rfl 51 (.tmp 13) (.tmp 26) rfl 13 nod_size (w7.heap.size+1) 51 rfl (nodC nod0 (.slice none 0 0) (.slice none 0 0)) (nodC (nodO ls (some x)) (.slice A1 n1 c1) (.slice C1 m1 d1)) rfl HZ13'.out rfl rfl (nodC_one _ _ _ _ _ _ _) ?_;intro w9 hr9 hg9 hs9;rw [HNN.out] at hr9;have qk:w9.cell? ⟨w7.heap.size+1,0,none⟩=some (.int .i64 2):=(hr9.cell 0).trans (by rw [show (nodC N (.slice A1 n1 c1) (.slice C1 m1 d1))[0]?=some (.int .i64 N.k) from rfl,HKK.out]);have HR13:=hide hr9;have HR12:=hide (R8.out.grown hg9 (pu5 (by omega)));have HB79:=hide (HB8.out.grown hg9 (by have:=HB8.out.size;omega) (pu4 (by omega)));have HB9:=hide (HB7.out.trans (HB79.out.mono HB7.out.size));have hs9l:=HB9.out.size;have hs79l:=hr9.lt;clear hr9 hg9 hs9))
     have HQK:=hide (fun W (hb:Below w9.heap.size w9 W)=>show W.cell? ⟨w7.heap.size+1,0,none⟩=some (.int .i64 2) from ((HR13.out.on hb).cell 0).trans (by rw [show (nodC N (.slice A1 n1 c1) (.slice C1 m1 d1))[0]?=some (.int .i64 N.k) from rfl,HKK.out]))
     clear qk
     refine wp_region_planN (fun w'=>Below w9.heap.size w9 w') [(0,true),(1,true),(2,true),(4,true),(3,false),(5,true)] (by kernel_rfl) (by kernel_rfl) (by kernel_rfl) (by kernel_rfl) rfl (fun _ _ _ _ _ h=>h) (below_drew (below_self w9)) (fun hHeld=>?_)
     simp only [planOps,List.filterMap_cons,List.filterMap_nil,List.getElem?_toArray,List.getElem?_cons_succ,List.getElem?_cons_zero,Option.map_some]
     refine wpPlan_take (v:=?_) (by kernel_rfl) (fun wS hSw=>?_) ?_
     rotate_left
     ·(try dsimp only at hSw);go_simp;(try with_reducible rfl)
     (try simp only [Act.put,pu1,pu2,pu3])
     refine wpPlan_take (v:=?_) (by kernel_rfl) (fun wS hSw=>?_) ?_
     rotate_left
     ·have qx:=HQK.out wS hSw;go_simp;(try with_reducible rfl)
     (try simp only [Act.put,pu1,pu2,pu3])
     refine wpPlan_take (v:=?_) (by kernel_rfl) (fun wS hSw=>?_) ?_
     rotate_left
     ·refine execOp_load (x:=.tmp 12) (k:=2) (g:=w7.heap.size) (off:=0) (cs:=prC x) ?_ plc_agg plc_size ?_ (fun j v hv=>by rw [Nat.zero_add];exact ((HR12.out.on hSw).cell j).trans hv) rfl <;> rfl
     (try simp only [Act.put,pu1,pu2,pu3])
     refine wpPlan_take (v:=?_) (by kernel_rfl) (fun wS hSw=>?_) ?_
     rotate_left
     ·(try dsimp only at hSw);go_simp;(try with_reducible rfl)
     (try simp only [Act.put,pu1,pu2,pu3])
     refine wpPlan_call (by kernel_rfl) (fun K hK=>?_)
     have hOld:=hide hHeld
     clear hHeld
     have hlit:=lit_plc x
     unfold Oper.wp execOp
     go_simp
     refine hK.out _ _ (hOld.out.alloc hOld.out.size _) (fun hHeld=>?_)
     clear hK K
     (try simp only [Act.put,pu1,pu2,pu3])
     refine wpPlan_take (v:=?_) (by kernel_rfl) (fun wS hSw=>?_) ?_
     rotate_left
     ·(try dsimp only at hSw);go_simp;(try with_reducible rfl)
     (try simp only [Act.put,pu1,pu2,pu3])
     refine wpPlan_end ?_
     go_wp2_with fail
     go_step3
     exact ⟨rfl,_,_,_,_,_,_,_,_,_,_,_,_,_,_,_,_,_,_,_,_,_,_,_,_,_,_,_,_,_,_,_,_,_,_,_,_,_,_,_,_,_,_,_,_,_,_,_,_,_,_,_,rfl,Nat.le_refl _,pr_lit1 _ _ _ (show w.heap.size≤w9.heap.size from by omega),((HBw.out.trans (HB9.out.mono (by have:=HBw.out.size;omega))).trans (hHeld.mono (by omega)))⟩
    ·simp [ha] at e
     subst e
     rw [show kindA acc=1 from by simp [kindA,ha]]
     go_wp2_with (first|(refine wpList_loadX rfl 75 (.tmp 18) rfl 2 plc_agg plc_size bP (oP+j*2) rfl (prC p) HCP.out rfl ?_)|(refine wpList_storeW rfl 75 (.tmp 11) (.tmp 19) rfl 2 plc_size wr.heap.size 75 rfl (prC (0,0)) (prC p) rfl HZP.out rfl rfl (prC_one _) ?_;intro w6 hr6 hg6 hs6;have hb6:=below_stored' hg6;have R6:=hide hr6;have HB6:=hide hb6;have R06:=hide ((R0.out.on HBR.out).on hb6);have hs6l:=hb6.size;clear hr6 hg6 hs6 hb6)|(refine wpList_loadW rfl 29 (.tmp 3) rfl 6 stk_agg stk_size w.heap.size 29 rfl (stkC g (.slice AU nU cU) (.slice AL nL cL)) R06.out rfl ?_)|(refine wpList_loadW rfl 75 (.tmp 11) rfl 2 plc_agg plc_size wr.heap.size 75 rfl (prC p) R6.out rfl ?_)|(go_at_call 168;refine (LFirst_e HO.out w6 (HL.out.under (HBR.out.trans (HB6.out.mono hbsz)) hB1) (by omega) hm HM2.out HF.out).mono ?_;rintro ez w7 ⟨A1,n1,c1,C1,m1,d1,rfl,e2,e3,e4,e5,hb7⟩;have HB7:=hide (HB6.out.trans (hb7.mono hs6l));obtain ⟨r12,r13,hbz,hsz⟩:=rows2 w7 (prC (0,0)) (nodC nod0 (.slice none 0 0) (.slice none 0 0)) 75 51;have HZ12:=hide r12;have HZ13:=hide r13;have HBZ:=hide hbz;have hs7l:=hb7.size;clear e3 e5 hb7 r12 r13 hbz hsz)|(refine wpList_storeW rfl 75 (.tmp 12) (.tmp 25) rfl 2 plc_size w7.heap.size 75 rfl (prC (0,0)) (prC (plcF p.1 (some x))) rfl HZ12.out rfl rfl (prC_one _) ?_;intro w8 hr8 hg8 hs8;have R8:=hide hr8;have HZ13':=hide (HZ13.out.grown hg8 (pu5 (by omega)));have HB8:=hide (HBZ.out.grown hg8 HBZ.out.size (pu4 (by omega)));clear hr8 hg8 hs8)|(refine wpList_storeW rfl 51 (.tmp 13) (.tmp 26) rfl 13 nod_size (w7.heap.size+1) 51 rfl (nodC nod0 (.slice none 0 0) (.slice none 0 0)) (nodC (nodO ls (some x)) (.slice A1 n1 c1) (.slice C1 m1 d1)) rfl HZ13'.out rfl rfl (nodC_one _ _ _ _ _ _ _) ?_;intro w9 hr9 hg9 hs9;rw [HNN.out] at hr9;have qk:w9.cell? ⟨w7.heap.size+1,0,none⟩=some (.int .i64 2):=(hr9.cell 0).trans (by rw [show (nodC N (.slice A1 n1 c1) (.slice C1 m1 d1))[0]?=some (.int .i64 N.k) from rfl,HKK.out]);have HR13:=hide hr9;have HR12:=hide (R8.out.grown hg9 (pu5 (by omega)));have HB79:=hide (HB8.out.grown hg9 (by have:=HB8.out.size;omega) (pu4 (by omega)));have HB9:=hide (HB7.out.trans (HB79.out.mono HB7.out.size));have hs9l:=HB9.out.size;have hs79l:=hr9.lt;clear hr9 hg9 hs9))
     go_step3
     exact ⟨rfl,A,c,_,_,_,_,_,_,_,_,_,_,_,_,_,_,_,_,_,_,_,_,_,_,_,_,_,_,_,_,_,_,_,_,_,_,_,_,_,_,_,_,_,_,_,_,_,_,_,_,_,rfl,own_capP HOW.out,(pr_fresh (ownsRow_below HOW.out HB9.out) rfl).mono (fun _ _=>rfl) (fun b hb=>⟨by omega,hb.2⟩),(HBw.out.trans (HB9.out.mono (by have:=HBw.out.size;omega)))⟩
   ·-- a link
    obtain ⟨x,rfl⟩:∃x,o=some x:=by
     cases o with
     | none=>exact absurd HKK.out (by rw [←HNN.out];simp [nodO,nod0])
     | some x=>exact ⟨x,rfl⟩
    have hNx:lowAt ls x.1 x.2=N:=HNN.out
    have HNX:=hide hNx
    clear hNx
    have e:=HFI.out
    rw [HDR.out] at e
    unfold findL at e
    rw [HO.out] at e
    simp only [HNX.out,HKK.out] at e
    by_cases ha:acc=[]
    ·subst ha
     simp at e
     subst e
     rw [show kindA []=0 from rfl]
     go_wp2_with (first|(refine wpList_loadX rfl 75 (.tmp 18) rfl 2 plc_agg plc_size bP (oP+j*2) rfl (prC p) HCP.out rfl ?_)|(refine wpList_storeW rfl 75 (.tmp 11) (.tmp 19) rfl 2 plc_size wr.heap.size 75 rfl (prC (0,0)) (prC p) rfl HZP.out rfl rfl (prC_one _) ?_;intro w6 hr6 hg6 hs6;have hb6:=below_stored' hg6;have R6:=hide hr6;have HB6:=hide hb6;have R06:=hide ((R0.out.on HBR.out).on hb6);have hs6l:=hb6.size;clear hr6 hg6 hs6 hb6)|(refine wpList_loadW rfl 29 (.tmp 3) rfl 6 stk_agg stk_size w.heap.size 29 rfl (stkC g (.slice AU nU cU) (.slice AL nL cL)) R06.out rfl ?_)|(refine wpList_loadW rfl 75 (.tmp 11) rfl 2 plc_agg plc_size wr.heap.size 75 rfl (prC p) R6.out rfl ?_)|(go_at_call 168;refine (LFirst_e HO.out w6 (HL.out.under (HBR.out.trans (HB6.out.mono hbsz)) hB1) (by omega) hm HM2.out HF.out).mono ?_;rintro ez w7 ⟨A1,n1,c1,C1,m1,d1,rfl,e2,e3,e4,e5,hb7⟩;have HB7:=hide (HB6.out.trans (hb7.mono hs6l));obtain ⟨r12,r13,hbz,hsz⟩:=rows2 w7 (prC (0,0)) (nodC nod0 (.slice none 0 0) (.slice none 0 0)) 75 51;have HZ12:=hide r12;have HZ13:=hide r13;have HBZ:=hide hbz;have hs7l:=hb7.size;clear e3 e5 hb7 r12 r13 hbz hsz)|(refine wpList_storeW rfl 75 (.tmp 12) (.tmp 25) rfl 2 plc_size w7.heap.size 75 rfl (prC (0,0)) (prC (plcF p.1 (some x))) rfl HZ12.out rfl rfl (prC_one _) ?_;intro w8 hr8 hg8 hs8;have R8:=hide hr8;have HZ13':=hide (HZ13.out.grown hg8 (pu5 (by omega)));have HB8:=hide (HBZ.out.grown hg8 HBZ.out.size (pu4 (by omega)));clear hr8 hg8 hs8)|(refine wpList_storeW rfl 51 (.tmp 13) (.tmp 26) rfl 13 nod_size (w7.heap.size+1) 51 rfl (nodC nod0 (.slice none 0 0) (.slice none 0 0)) (nodC (nodO ls (some x)) (.slice A1 n1 c1) (.slice C1 m1 d1)) rfl HZ13'.out rfl rfl (nodC_one _ _ _ _ _ _ _) ?_;intro w9 hr9 hg9 hs9;rw [HNN.out] at hr9;have qk:w9.cell? ⟨w7.heap.size+1,0,none⟩=some (.int .i64 3):=(hr9.cell 0).trans (by rw [show (nodC N (.slice A1 n1 c1) (.slice C1 m1 d1))[0]?=some (.int .i64 N.k) from rfl,HKK.out]);have HR13:=hide hr9;have HR12:=hide (R8.out.grown hg9 (pu5 (by omega)));have HB79:=hide (HB8.out.grown hg9 (by have:=HB8.out.size;omega) (pu4 (by omega)));have HB9:=hide (HB7.out.trans (HB79.out.mono HB7.out.size));have hs9l:=HB9.out.size;have hs79l:=hr9.lt;clear hr9 hg9 hs9))
     have HQK:=hide (fun W (hb:Below w9.heap.size w9 W)=>show W.cell? ⟨w7.heap.size+1,0,none⟩=some (.int .i64 3) from ((HR13.out.on hb).cell 0).trans (by rw [show (nodC N (.slice A1 n1 c1) (.slice C1 m1 d1))[0]?=some (.int .i64 N.k) from rfl,HKK.out]))
     clear qk
     refine wp_region_planN (fun w'=>Below w9.heap.size w9 w') [(0,true),(1,true),(2,true),(4,true),(3,false),(5,true)] (by kernel_rfl) (by kernel_rfl) (by kernel_rfl) (by kernel_rfl) rfl (fun _ _ _ _ _ h=>h) (below_drew (below_self w9)) (fun hHeld=>?_)
     simp only [planOps,List.filterMap_cons,List.filterMap_nil,List.getElem?_toArray,List.getElem?_cons_succ,List.getElem?_cons_zero,Option.map_some]
     refine wpPlan_take (v:=?_) (by kernel_rfl) (fun wS hSw=>?_) ?_
     rotate_left
     ·(try dsimp only at hSw);go_simp;(try with_reducible rfl)
     (try simp only [Act.put,pu1,pu2,pu3])
     refine wpPlan_take (v:=?_) (by kernel_rfl) (fun wS hSw=>?_) ?_
     rotate_left
     ·have qx:=HQK.out wS hSw;go_simp;(try with_reducible rfl)
     (try simp only [Act.put,pu1,pu2,pu3])
     refine wpPlan_take (v:=?_) (by kernel_rfl) (fun wS hSw=>?_) ?_
     rotate_left
     ·refine execOp_load (x:=.tmp 12) (k:=2) (g:=w7.heap.size) (off:=0) (cs:=prC x) ?_ plc_agg plc_size ?_ (fun j v hv=>by rw [Nat.zero_add];exact ((HR12.out.on hSw).cell j).trans hv) rfl <;> rfl
     (try simp only [Act.put,pu1,pu2,pu3])
     refine wpPlan_take (v:=?_) (by kernel_rfl) (fun wS hSw=>?_) ?_
     rotate_left
     ·(try dsimp only at hSw);go_simp;(try with_reducible rfl)
     (try simp only [Act.put,pu1,pu2,pu3])
     refine wpPlan_call (by kernel_rfl) (fun K hK=>?_)
     have hOld:=hide hHeld
     clear hHeld
     have hlit:=lit_plc x
     unfold Oper.wp execOp
     go_simp
     refine hK.out _ _ (hOld.out.alloc hOld.out.size _) (fun hHeld=>?_)
     clear hK K
     (try simp only [Act.put,pu1,pu2,pu3])
     refine wpPlan_take (v:=?_) (by kernel_rfl) (fun wS hSw=>?_) ?_
     rotate_left
     ·(try dsimp only at hSw);go_simp;(try with_reducible rfl)
     (try simp only [Act.put,pu1,pu2,pu3])
     refine wpPlan_end ?_
     go_wp2_with fail
     go_step3
     exact ⟨rfl,_,_,_,_,_,_,_,_,_,_,_,_,_,_,_,_,_,_,_,_,_,_,_,_,_,_,_,_,_,_,_,_,_,_,_,_,_,_,_,_,_,_,_,_,_,_,_,_,_,_,_,rfl,Nat.le_refl _,pr_lit1 _ _ _ (show w.heap.size≤w9.heap.size from by omega),((HBw.out.trans (HB9.out.mono (by have:=HBw.out.size;omega))).trans (hHeld.mono (by omega)))⟩
    ·simp [ha] at e
     subst e
     rw [show kindA acc=1 from by simp [kindA,ha]]
     go_wp2_with (first|(refine wpList_loadX rfl 75 (.tmp 18) rfl 2 plc_agg plc_size bP (oP+j*2) rfl (prC p) HCP.out rfl ?_)|(refine wpList_storeW rfl 75 (.tmp 11) (.tmp 19) rfl 2 plc_size wr.heap.size 75 rfl (prC (0,0)) (prC p) rfl HZP.out rfl rfl (prC_one _) ?_;intro w6 hr6 hg6 hs6;have hb6:=below_stored' hg6;have R6:=hide hr6;have HB6:=hide hb6;have R06:=hide ((R0.out.on HBR.out).on hb6);have hs6l:=hb6.size;clear hr6 hg6 hs6 hb6)|(refine wpList_loadW rfl 29 (.tmp 3) rfl 6 stk_agg stk_size w.heap.size 29 rfl (stkC g (.slice AU nU cU) (.slice AL nL cL)) R06.out rfl ?_)|(refine wpList_loadW rfl 75 (.tmp 11) rfl 2 plc_agg plc_size wr.heap.size 75 rfl (prC p) R6.out rfl ?_)|(go_at_call 168;refine (LFirst_e HO.out w6 (HL.out.under (HBR.out.trans (HB6.out.mono hbsz)) hB1) (by omega) hm HM2.out HF.out).mono ?_;rintro ez w7 ⟨A1,n1,c1,C1,m1,d1,rfl,e2,e3,e4,e5,hb7⟩;have HB7:=hide (HB6.out.trans (hb7.mono hs6l));obtain ⟨r12,r13,hbz,hsz⟩:=rows2 w7 (prC (0,0)) (nodC nod0 (.slice none 0 0) (.slice none 0 0)) 75 51;have HZ12:=hide r12;have HZ13:=hide r13;have HBZ:=hide hbz;have hs7l:=hb7.size;clear e3 e5 hb7 r12 r13 hbz hsz)|(refine wpList_storeW rfl 75 (.tmp 12) (.tmp 25) rfl 2 plc_size w7.heap.size 75 rfl (prC (0,0)) (prC (plcF p.1 (some x))) rfl HZ12.out rfl rfl (prC_one _) ?_;intro w8 hr8 hg8 hs8;have R8:=hide hr8;have HZ13':=hide (HZ13.out.grown hg8 (pu5 (by omega)));have HB8:=hide (HBZ.out.grown hg8 HBZ.out.size (pu4 (by omega)));clear hr8 hg8 hs8)|(refine wpList_storeW rfl 51 (.tmp 13) (.tmp 26) rfl 13 nod_size (w7.heap.size+1) 51 rfl (nodC nod0 (.slice none 0 0) (.slice none 0 0)) (nodC (nodO ls (some x)) (.slice A1 n1 c1) (.slice C1 m1 d1)) rfl HZ13'.out rfl rfl (nodC_one _ _ _ _ _ _ _) ?_;intro w9 hr9 hg9 hs9;rw [HNN.out] at hr9;have qk:w9.cell? ⟨w7.heap.size+1,0,none⟩=some (.int .i64 3):=(hr9.cell 0).trans (by rw [show (nodC N (.slice A1 n1 c1) (.slice C1 m1 d1))[0]?=some (.int .i64 N.k) from rfl,HKK.out]);have HR13:=hide hr9;have HR12:=hide (R8.out.grown hg9 (pu5 (by omega)));have HB79:=hide (HB8.out.grown hg9 (by have:=HB8.out.size;omega) (pu4 (by omega)));have HB9:=hide (HB7.out.trans (HB79.out.mono HB7.out.size));have hs9l:=HB9.out.size;have hs79l:=hr9.lt;clear hr9 hg9 hs9))
     go_step3
     exact ⟨rfl,A,c,_,_,_,_,_,_,_,_,_,_,_,_,_,_,_,_,_,_,_,_,_,_,_,_,_,_,_,_,_,_,_,_,_,_,_,_,_,_,_,_,_,_,_,_,_,_,_,_,_,rfl,own_capP HOW.out,(pr_fresh (ownsRow_below HOW.out HB9.out) rfl).mono (fun _ _=>rfl) (fun b hb=>⟨by omega,hb.2⟩),(HBw.out.trans (HB9.out.mono (by have:=HBw.out.size;omega)))⟩
   ·-- a whiteout
    go_wp2_with (first|(refine wpList_loadX rfl 75 (.tmp 18) rfl 2 plc_agg plc_size bP (oP+j*2) rfl (prC p) HCP.out rfl ?_)|(refine wpList_storeW rfl 75 (.tmp 11) (.tmp 19) rfl 2 plc_size wr.heap.size 75 rfl (prC (0,0)) (prC p) rfl HZP.out rfl rfl (prC_one _) ?_;intro w6 hr6 hg6 hs6;have hb6:=below_stored' hg6;have R6:=hide hr6;have HB6:=hide hb6;have R06:=hide ((R0.out.on HBR.out).on hb6);have hs6l:=hb6.size;clear hr6 hg6 hs6 hb6)|(refine wpList_loadW rfl 29 (.tmp 3) rfl 6 stk_agg stk_size w.heap.size 29 rfl (stkC g (.slice AU nU cU) (.slice AL nL cL)) R06.out rfl ?_)|(refine wpList_loadW rfl 75 (.tmp 11) rfl 2 plc_agg plc_size wr.heap.size 75 rfl (prC p) R6.out rfl ?_)|(go_at_call 168;refine (LFirst_e HO.out w6 (HL.out.under (HBR.out.trans (HB6.out.mono hbsz)) hB1) (by omega) hm HM2.out HF.out).mono ?_;rintro ez w7 ⟨A1,n1,c1,C1,m1,d1,rfl,e2,e3,e4,e5,hb7⟩;have HB7:=hide (HB6.out.trans (hb7.mono hs6l));obtain ⟨r12,r13,hbz,hsz⟩:=rows2 w7 (prC (0,0)) (nodC nod0 (.slice none 0 0) (.slice none 0 0)) 75 51;have HZ12:=hide r12;have HZ13:=hide r13;have HBZ:=hide hbz;have hs7l:=hb7.size;clear e3 e5 hb7 r12 r13 hbz hsz)|(refine wpList_storeW rfl 75 (.tmp 12) (.tmp 25) rfl 2 plc_size w7.heap.size 75 rfl (prC (0,0)) (prC (plcF p.1 o)) rfl HZ12.out rfl rfl (prC_one _) ?_;intro w8 hr8 hg8 hs8;have R8:=hide hr8;have HZ13':=hide (HZ13.out.grown hg8 (pu5 (by omega)));have HB8:=hide (HBZ.out.grown hg8 HBZ.out.size (pu4 (by omega)));clear hr8 hg8 hs8)|(refine wpList_storeW rfl 51 (.tmp 13) (.tmp 26) rfl 13 nod_size (w7.heap.size+1) 51 rfl (nodC nod0 (.slice none 0 0) (.slice none 0 0)) (nodC (nodO ls o) (.slice A1 n1 c1) (.slice C1 m1 d1)) rfl HZ13'.out rfl rfl (nodC_one _ _ _ _ _ _ _) ?_;intro w9 hr9 hg9 hs9;rw [HNN.out] at hr9;have qk:w9.cell? ⟨w7.heap.size+1,0,none⟩=some (.int .i64 4):=(hr9.cell 0).trans (by rw [show (nodC N (.slice A1 n1 c1) (.slice C1 m1 d1))[0]?=some (.int .i64 N.k) from rfl,HKK.out]);have HR13:=hide hr9;have HR12:=hide (R8.out.grown hg9 (pu5 (by omega)));have HB79:=hide (HB8.out.grown hg9 (by have:=HB8.out.size;omega) (pu4 (by omega)));have HB9:=hide (HB7.out.trans (HB79.out.mono HB7.out.size));have hs9l:=HB9.out.size;have hs79l:=hr9.lt;clear hr9 hg9 hs9))
    go_step3
    have e:=HFI.out
    obtain ⟨x,rfl⟩:∃x,o=some x:=by
     cases o with
     | none=>exact absurd HKK.out (by rw [←HNN.out];simp [nodO,nod0])
     | some x=>exact ⟨x,rfl⟩
    rw [HDR.out] at e
    unfold findL at e
    rw [HO.out] at e
    have hNx:lowAt ls x.1 x.2=N:=HNN.out
    simp only [hNx,HKK.out] at e
    by_cases ha:acc=[]
    ·subst ha
     simp at e
     subst e
     exact ⟨rfl,_,_,_,_,_,_,_,_,_,_,_,_,_,_,_,_,_,_,_,_,_,_,_,_,_,_,_,_,_,_,_,_,_,_,_,_,_,_,_,_,_,_,_,_,_,_,_,_,_,_,_,rfl,Nat.zero_le _,RdE.none_ _ _ _ _,(HBw.out.trans (HB9.out.mono (by have:=HBw.out.size;omega)))⟩
    ·simp [ha] at e
     subst e
     have hka:kindA acc=1:=by simp [kindA,ha]
     rw [hka]
     exact ⟨rfl,A,c,_,_,_,_,_,_,_,_,_,_,_,_,_,_,_,_,_,_,_,_,_,_,_,_,_,_,_,_,_,_,_,_,_,_,_,_,_,_,_,_,_,_,_,_,_,_,_,_,_,rfl,own_capP HOW.out,(pr_fresh (ownsRow_below HOW.out HB9.out) rfl).mono (fun _ _=>rfl) (fun b hb=>⟨by omega,hb.2⟩),(HBw.out.trans (HB9.out.mono (by have:=HBw.out.size;omega)))⟩
  ·obtain rfl:j=n:=by omega
   have e:=HFI.out
   rw [List.drop_of_length_le (by have:=HPL.out;omega),findL_end] at e
   subst e
   go_wp2_with fail
   go_step3
   go_wp2_with fail
   (first|go_ret2|(simp only [Exit.jump];go_ret2)|(rw [Exit.noGoto_ret];go_ret2))
   exact ⟨A,c,rfl,own_capP HOW.out,(pr_fresh HOW.out rfl).mono (fun _ _=>rfl) (fun b hb=>⟨by omega,hb.2⟩),HBw.out⟩
end Go.Proofs.YtpndfahgflgocaaGreatDoor

