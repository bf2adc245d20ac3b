import Derived.Test.YtpndfahgflgocaaDoorXn31
import Derived.Test.YtpndfahgflgocaaDoorXn23
import Derived.Test.YtpndfahgflgocaaDoorXn11
import Derived.Test.YtpndfahgflgocaaDoorXn19
import Derived.Test.YtpndfahgflgocaaDoorXn29
import Derived.Test.YtpndfahgflgocaaDoorRows
import Derived.Lib.SmallJoins
import Derived.OpenShut
import Derived.ProofKit
import Derived.LaidMore
import Derived.Stop.Joined
import Derived.Stop.LaidErr

namespace Go.Proofs.YtpndfahgflgocaaDoor
open Go.RowKit Go.Shelf Plain

def upCX:List Value:=nodC ndD (.slice none 0 0) (.slice none 0 0)++(nodC ndD (.slice none 0 0) (.slice none 0 0)++(nodC ndD (.slice none 0 0) (.slice none 0 0)++(nodC nod0 (.slice none 0 0) (.slice none 0 0)++nodC nod0 (.slice none 0 0) (.slice none 0 0))))
def BaseRetX (w:World) (e:Ending) (w':World):Prop:=∃g0 AL nL cL,e=.returned (.agg (stkC gB (.slice (some ⟨g0,0,none⟩) 5 5) (.slice AL nL cL)).toArray)∧RowL w' g0 42 upCX∧RdE layEn w' (fun b=>w.heap.size≤b∧b < g0) AL nL lsB∧w.heap.size≤g0∧Below w.heap.size w w'
set_option maxRecDepth 100000 in
set_option maxHeartbeats 1000000 in
theorem Base_oX (w:World):Calls Tryd.prog 22 #[] w (BaseRetX w):=by
 obtain ⟨r0,r1,hb2,hs2⟩:=rows2 w (stkC ⟨0,0,0,0⟩ (.slice none 0 0) (.slice none 0 0)) (stkC ⟨0,0,0,0⟩ (.slice none 0 0) (.slice none 0 0)) 29 29
 have R0:=hide r0
 have R1:=hide r1
 have HB2:=hide hb2
 clear r0 r1 hb2 hs2
 go_enter Tryd.func22,Tryd.ntmps22
 go_wp2_with (refine wpList_storeW rfl 29 (.tmp 1) (.tmp 3) rfl 6 stk_size (w.heap.size+1) 29 rfl (stkC ⟨0,0,0,0⟩ (.slice none 0 0) (.slice none 0 0)) (stkC gB (.slice none 0 0) (.slice none 0 0)) rfl R1.out rfl rfl (by simp [stkC,Value.oneCell']) ?_;intro w3 hr3 hg3 hs3;have R3:=hide hr3;have R03:=hide (R0.out.grown hg3 (pu5 (by omega)));have HB3:=hide (HB2.out.grown hg3 HB2.out.size (pu4 (by omega)));have hl3:=hr3.lt;have HE3:=hide (RowL.new w3 31 (flatE [⟨0,2,[97]⟩]));have hbe:=below_new (below_self w3) (.cells (flatE [⟨0,2,[97]⟩]).toArray 31);have HBE:=hide hbe;clear hr3 hg3 hs3 hbe)
 refine (Dir_any _).mono ?_
 rintro ez w4 ⟨rfl,hb4⟩
 have HE4:=hide (HE3.out.on hb4)
 have HB4:=hide ((HB3.out.trans (HBE.out.mono HB3.out.size)).trans (hb4.mono (Nat.le_trans HB3.out.size HBE.out.size)))
 have hbe4:=HBE.out.trans (hb4.mono HBE.out.size)
 have HR34:=hide (R3.out.on hbe4)
 have HR04:=hide (R03.out.on hbe4)
 have q5:w4.cell? ⟨w.heap.size+1,5,none⟩=some (.slice none 0 0):=HR34.out.cell 5
 have f5:w4.frozen? ⟨w.heap.size+1,5,none⟩=false:=HR34.out.frozen 5
 have hl4:w.heap.size+1 < w4.heap.size:=HR34.out.lt
 have hl34:=HE4.out.lt
 clear hb4 hbe4
 have HRU:=hide (RowL.new w4 5 [.int .u8 120])
 have HBU:=hide (below_new (below_self w4) (.cells #[.int .u8 120] 5))
 go_wp2_with (first|(refine wpList_lit5N (w:=w4.alloc (.cells #[.int .u8 120] 5)) rfl (.tmp 6) (.tmp 8) (.tmp 9) (.tmp 10) (.tmp 11) rfl (c0:=nodC ndD (.slice none 0 0) (.slice (some ⟨w3.heap.size,0,none⟩) 1 1)) (c1:=nodC ndF (.slice (some ⟨w4.heap.size,0,none⟩) 1 1) (.slice none 0 0)) (c2:=nodC nod0 (.slice none 0 0) (.slice none 0 0)) (c3:=nodC nod0 (.slice none 0 0) (.slice none 0 0)) (c4:=nodC nod0 (.slice none 0 0) (.slice none 0 0)) rfl rfl rfl rfl rfl rfl rfl rfl rfl rfl ?_;intro w6 hr6 hb6;simp only [World.size_alloc] at hr6;have HR6:=hide hr6;have HB6:=hide (HBU.out.trans (hb6.mono HBU.out.size));have HRU6:=hide (HRU.out.on hb6);have q56:w6.cell? ⟨w.heap.size+1,5,none⟩=some (.slice none 0 0):=(HB6.out.cell (p:=⟨w.heap.size+1,5,none⟩) hl4).trans q5;have f56:w6.frozen? ⟨w.heap.size+1,5,none⟩=false:=(HB6.out.frozen (p:=⟨w.heap.size+1,5,none⟩) hl4).trans f5;have hl6:w.heap.size+1 < w6.heap.size:=Nat.lt_of_lt_of_le hl4 HB6.out.size;clear hr6 hb6)|fail)
 have hw2:w.heap.size+2≤w3.heap.size:=by have:=R3.out.lt;omega
 have hs34:w3.heap.size < w4.heap.size:=hl34
 have hs46:=HB6.out.size
 have hr6l:=HR6.out.lt
 have hg7:=grown_cell w6 (w.heap.size+1) 5 (.slice (some ⟨w6.heap.size,0,none⟩) 1 1)
 have n6:RdE nodEn w6 (Fr (w.heap.size+2) w6) (some ⟨w4.heap.size+1,0,none⟩) 5 lyB:=nods_row HR6.out ⟨by omega,hr6l⟩ ⟨none,0,0,_,1,1,rfl,Nat.le_refl _,RdE.none_ _ _ _ _,Nat.le_refl _,ent_row (HE4.out.on HB6.out) ⟨by omega,by omega⟩⟩ ⟨_,1,1,none,0,0,rfl,Nat.le_refl _,byte_row (l:=[120]) HRU6.out ⟨by omega,by omega⟩,Nat.le_refl _,RdE.none_ _ _ _ _⟩ (nod0R _ _) (nod0R _ _) (nod0R _ _)
 have n7:=n6.grF hg7 (by omega)
 have x7:RowL (w6.setCell ⟨w.heap.size+1,5,none⟩ (.slice (some ⟨w6.heap.size,0,none⟩) 1 1)) (w.heap.size+1) 29 (stkC gB (.slice none 0 0) (.slice (some ⟨w6.heap.size,0,none⟩) 1 1)):=(HR34.out.on HB6.out).set_ 5 _
 have y7:=(HR04.out.on HB6.out).grown hg7 (pu5 (by omega))
 have hs7:(w6.setCell ⟨w.heap.size+1,5,none⟩ (.slice (some ⟨w6.heap.size,0,none⟩) 1 1)).heap.size=w6.heap.size:=by simp [World.setCell]
 have hb7:Below w.heap.size w (w6.setCell ⟨w.heap.size+1,5,none⟩ (.slice (some ⟨w6.heap.size,0,none⟩) 1 1)):=(HB4.out.trans (HB6.out.mono (by omega))).setCell (p:=⟨w.heap.size+1,5,none⟩) (by show w.heap.size≤w.heap.size+1;omega) _
 clear q5 f5 hl4 hg7 n6
 refine (Dir_any _).mono ?_
 rintro ez w9 ⟨rfl,hb9⟩
 generalize w6.setCell ⟨w.heap.size+1,5,none⟩ (.slice (some ⟨w6.heap.size,0,none⟩) 1 1)=w7 at *
 have r8:=RowL.new w7 26 [Value.slice (some ⟨w4.heap.size+1,0,none⟩) 5 5]
 have b8:=below_new (below_self w7) (.cells [Value.slice (some ⟨w4.heap.size+1,0,none⟩) 5 5].toArray 26)
 have l8:RdE layEn (w7.alloc (.cells [Value.slice (some ⟨w4.heap.size+1,0,none⟩) 5 5].toArray 26)) (Fr (w.heap.size+2) (w7.alloc (.cells [Value.slice (some ⟨w4.heap.size+1,0,none⟩) 5 5].toArray 26))) (some ⟨w6.heap.size,0,none⟩) 1 lsB:=lay_row (by rw [←hs7];exact r8) ⟨by omega,by simp;omega⟩ (Nat.le_refl _) (n7.onF b8)
 have X9:=hide ((x7.on b8).on hb9)
 have Y9:=hide ((y7.on b8).on hb9)
 have L9:=hide (l8.onF hb9)
 have B9:=hide ((hb7.trans (b8.mono hb7.size)).trans (hb9.mono (Nat.le_trans hb7.size b8.size)))
 clear r8 b8 l8 x7 y7 n7 hb7 hb9 hs7
 go_wp2_with fail
 refine (Dir_any _).mono ?_
 rintro ez w10 ⟨rfl,hb10⟩
 have HB10:=hide hb10
 clear hb10
 go_wp2_with fail
 refine (Dir_any _).mono ?_
 rintro ez w11 ⟨rfl,hb11⟩
 have HB11:=hide (HB10.out.trans (hb11.mono HB10.out.size))
 clear hb11
 go_wp2_with (first|(refine wpList_lit5N (w:=w11) rfl (.tmp 16) (.tmp 17) (.tmp 18) (.tmp 19) (.tmp 20) rfl (c0:=nodC ndD (.slice none 0 0) (.slice none 0 0)) (c1:=nodC ndD (.slice none 0 0) (.slice none 0 0)) (c2:=nodC ndD (.slice none 0 0) (.slice none 0 0)) (c3:=nodC nod0 (.slice none 0 0) (.slice none 0 0)) (c4:=nodC nod0 (.slice none 0 0) (.slice none 0 0)) rfl rfl rfl rfl rfl rfl rfl rfl rfl rfl ?_;intro w12 hr12 hb12;have HR12:=hide hr12;have HB12:=hide (HB11.out.trans (hb12.mono HB11.out.size));have hl12:=hr12.lt;clear hr12 hb12)|(refine wpList_storeC rfl 26 (.tmp 23) (.tmp 22) rfl 1 lay_size (w.heap.size+1) 4 29 rfl (stkC gB (.slice none 0 0) (.slice (some ⟨w6.heap.size,0,none⟩) 1 1)) [.slice (some ⟨w11.heap.size,0,none⟩) 5 5] rfl (X9.out.on HB12.out) rfl (by simp [stkC]) (by simp [Value.oneCell']) ?_;intro w13 hr13 hg13 hs13;have HX13:=hide (show RowL w13 (w.heap.size+1) 29 (stkC gB (.slice (some ⟨w11.heap.size,0,none⟩) 5 5) (.slice (some ⟨w6.heap.size,0,none⟩) 1 1)) from hr13);have HG13:=hide hg13;clear hr13 hg13)|(refine wpList_loadW rfl 29 (.tmp 1) rfl 6 stk_agg stk_size (w.heap.size+1) 29 rfl (stkC gB (.slice (some ⟨w11.heap.size,0,none⟩) 5 5) (.slice (some ⟨w6.heap.size,0,none⟩) 1 1)) HX13.out rfl ?_)|(refine wpList_storeW rfl 29 (.tmp 0) (.tmp 24) rfl 6 stk_size w.heap.size 29 rfl (stkC ⟨0,0,0,0⟩ (.slice none 0 0) (.slice none 0 0)) (stkC gB (.slice (some ⟨w11.heap.size,0,none⟩) 5 5) (.slice (some ⟨w6.heap.size,0,none⟩) 1 1)) rfl ((Y9.out.on HB12.out).grown HG13.out (pu5 (by omega))) rfl rfl (by simp [stkC,Value.oneCell']) ?_;intro w14 hr14 hg14 hs14;have HR14:=hide hr14;have HG14:=hide hg14;clear hr14 hg14)|fail)
 have hx9:=X9.out.lt
 have hs9:=B9.out.size
 have hs12:=HB12.out.size
 have hs11:=HB11.out.size
 have l12:RdE layEn w12 (fun b=>w.heap.size+2≤b∧b < w9.heap.size) _ 1 lsB:=L9.out.mono (fun b hb=>HB12.out.block b hb.2) (fun _ h=>h)
 have l13:=l12.mono (w':=w13) (D':=fun b=>w.heap.size+2≤b∧b < w9.heap.size) (fun b hb=>HG13.out.block b (by have:=hb.2;omega) (fun e=>by have:=Option.some.inj e;have:=hb.1;omega)) (fun _ h=>h)
 have hs13:=HG13.out.size
 have l14:=l13.mono (w':=w14) (D':=fun b=>w.heap.size≤b∧b < w11.heap.size) (fun b hb=>HG14.out.block b (by have:=hb.2;omega) (fun e=>by have:=Option.some.inj e;have:=hb.1;omega)) (fun _ h=>⟨by have:=h.1;omega,by have:=h.2;omega⟩)
 exact bodyPost_ret (res_cell Tryd.results22 rfl stk_agg stk_size HR14.out rfl) rfl ⟨w11.heap.size,_,1,1,rfl,(HR12.out.grown HG13.out (pu5 (by omega))).grown HG14.out (pu5 (by omega)),l14,by omega,((B9.out.trans (HB12.out.mono hs9)).grown HG13.out (by omega) (pu4 (by omega))).grown HG14.out (by have:=HG13.out.size;omega) (pu4 (by omega))⟩
theorem btw_onX {α:Type} {E:Enc α} {w w':World} {lo hi:Nat} {A:Option Addr} {n:Nat} {l:List α} (h:RdE E w (fun b=>lo≤b∧b < hi) A n l) (hb:Below w.heap.size w w') (hh:hi≤w.heap.size):RdE E w' (fun b=>lo≤b∧b < hi) A n l:=h.mono (Kept.of_below hb fun _ h=>Nat.lt_of_lt_of_le h.2 hh) fun _ h=>h
theorem btw_grownX {α:Type} {E:Enc α} {w w':World} {lo hi g:Nat} {A:Option Addr} {n:Nat} {l:List α} (h:RdE E w (fun b=>lo≤b∧b < hi) A n l) (hg:w.grownBy w' (some g)) (hh:hi≤w.heap.size) (hne:g < lo∨hi≤g):RdE E w' (fun b=>lo≤b∧b < hi) A n l:=h.mono (fun b hb=>hg.block b (Nat.lt_of_lt_of_le hb.2 hh) (fun e=>by have:=Option.some.inj e;have h1:=hb.1;have h2:=hb.2;omega)) fun _ h=>h
theorem stkC_oneX (g:GeoQ) (A B:Option Addr) (n c m d:Nat):∀v∈stkC g (.slice A n c) (.slice B m d),v.oneCell'=true:=by simp [stkC,Value.oneCell']
def upC1X (E:Value):List Value:=nodC ndD (.slice none 0 0) E++(nodC ndD (.slice none 0 0) (.slice none 0 0)++(nodC ndD (.slice none 0 0) (.slice none 0 0)++(nodC nod0 (.slice none 0 0) (.slice none 0 0)++nodC nod0 (.slice none 0 0) (.slice none 0 0))))
end Go.Proofs.YtpndfahgflgocaaDoor

namespace Go.Proofs.YtpndfahgflgocaaDoor
open Go.RowKit Go.WideShapes Go.ChangeShapes Plain

theorem star_err : "*" ++ "errors.errorString" = "*errors.errorString" := by decide
set_option maxRecDepth 100000 in
theorem row_err (u : TypeId) (h : Tryd.prog.typeName? 3 u = some "*errors.errorString") : u = 163 :=
 typeName_ptr_named (nm := "errors.errorString") (by rw [star_err]; kernel_rfl) (by kernel_rfl) (by decide) u (by rw [star_err]; exact h)
theorem cut_oneP {l:List Value} {j:Nat} (h:j < l.length):(l.drop j).take 1=[l[j]]:=by
 rw [List.drop_eq_getElem_cons h,List.take_succ_cons,List.take_zero]
theorem ev_of_laid {r : List (String × DataW Unit)} {W : World} (h : laidMet Tryd.prog (("strconv.ErrSyntax", Rows.laid_strconv_ErrSyntax) :: r) W) : EvW W := by
 obtain ⟨a,s,hv,-,-,-⟩:=laid_sentinel (g:=1) (ti:=102) (te:=165) (ts:=9) h (by kernel_rfl) (by kernel_rfl) Tryd.underlying102 row_err Tryd.underlying163 Tryd.underlying165 rfl rfl Tryd.underlying9 (by kernel_rfl) (by kernel_rfl)
 refine ⟨_,World.var?_cell (g:=1) (by kernel_rfl) hv 0,.inr ⟨_,_,rfl⟩⟩
set_option maxRecDepth 100000 in
theorem bz_of_laid {r : List (String × DataW Unit)} {W : World} (h : laidMet Tryd.prog (("math/bits.deBruijn64tab", Rows.laid_math_bits_deBruijn64tab) :: r) W) : BzW W := by
 obtain ⟨ps,⟨g0,t0,cs0,f0,p0,q0,hg0,ht0,hv0,hd0,_,_⟩,_,_⟩:=h
 have gN : Tryd.prog.globalNamed "math/bits.deBruijn64tab" = some 6 := by kernel_rfl
 have tN:(Tryd.prog.globals[6]?).map (·.type)=some 174:=by kernel_rfl
 obtain rfl:=Option.some.inj (gN.symm.trans hg0)
 obtain rfl:=Option.some.inj (tN.symm.trans ht0)
 obtain ⟨xs,m1,rfl,hx1,hlen,hn,hel⟩:=DataW.trod_array Tryd.underlying174 hd0
 have c1:Tryd.prog.cellsOf 5=1:=by kernel_rfl
 have c64:Tryd.prog.cellsOf 174=64:=by kernel_rfl
 have hj:15 < cs0.toList.length:=by rw [hlen,c64];omega
 have he:=hel 15 (by omega)
 rw [c1,Nat.mul_one,cut_oneP hj,List.getElem?_eq_getElem (show 15 < xs.length by omega)] at he
 obtain ⟨k,e1,e2,_⟩:=DataW.trod_int Tryd.underlying5 he
 have ec:cs0.toList[15]=.int .u8 k:=by simpa using e1
 have hk:k=4:=by
  have hx:=congrArg Prod.fst hx1
  simp only [Rows.laid_math_bits_deBruijn64tab,DataW.agg.injEq] at hx
  have h1:(xs.map (·.1))[15]?=some (xs[15]'(by omega)).1:=by rw [List.getElem?_map,List.getElem?_eq_getElem (show 15 < xs.length by omega)];rfl
  rw [←hx,e2] at h1
  simp at h1
  omega
 unfold BzW
 rw [World.var?_cell hg0 hv0 15,←Array.getElem?_toList,List.getElem?_eq_getElem hj,ec,hk]
set_option maxRecDepth 100000 in
theorem trod_prt {n:Nat} {l:List Value} {a b c:Int} {q:List MemPlace} {W:World} {enc:TypeId×Value→Unit} {base:Nat} {sp:Nat→Bool} {held:Bool} (hl:l.length=3) (h:DataW.trod enc Tryd.prog W base sp held n 79 l=some (.agg [.lit (.int .i64 a),.lit (.int .i64 b),.lit (.int .i64 c)],q)):l=[.int .i64 a,.int .i64 b,.int .i64 c]:=by
 obtain ⟨xs,m,-,hx,-,hlen,hp⟩:=DataW.trod_struct Tryd.underlying79 h
 have h1:Tryd.prog.cellsOf 3=1:=by kernel_rfl
 match xs,l,hlen,hl,hp,hx with
 | [x0,x1,x2],[c0,c1,c2],_,_,hp,hx =>
  have p0:=hp 0 _ rfl
  have p1:=hp 1 _ rfl
  have p2:=hp 2 _ rfl
  obtain ⟨k0,e0,f0,-⟩:=DataW.trod_int Tryd.underlying3 (cs:=[c0]) p0
  obtain ⟨k1,e1,f1,-⟩:=DataW.trod_int Tryd.underlying3 (cs:=[c1]) p1
  obtain ⟨k2,e2,f2,-⟩:=DataW.trod_int Tryd.underlying3 (cs:=[c2]) p2
  subst f0 f1 f2
  simp at hx e0 e1 e2
  obtain ⟨⟨rfl,rfl,rfl⟩,-⟩:=hx
  rw [e0,e1,e2]
set_option maxRecDepth 100000 in
theorem pt_of_laid {r : List (String × DataW Unit)} {W : World} (h : laidMet Tryd.prog (("craquelure/handle.parts", Rows.laid_craquelure_handle_parts) :: r) W) : PtW W := by
 obtain ⟨ps,⟨g0,t0,cs0,f0,p0,q0,hg0,ht0,hv0,hd0,_,_⟩,_,_⟩:=h
 have gN : Tryd.prog.globalNamed "craquelure/handle.parts" = some 0 := by kernel_rfl
 have tN:(Tryd.prog.globals[0]?).map (·.type)=some 80:=by kernel_rfl
 obtain rfl:=Option.some.inj (gN.symm.trans hg0)
 obtain rfl:=Option.some.inj (tN.symm.trans ht0)
 obtain ⟨xs,m1,rfl,hx1,hlen,hn,hel⟩:=DataW.trod_array Tryd.underlying80 hd0
 have c3:Tryd.prog.cellsOf 79=3:=by kernel_rfl
 have c9:Tryd.prog.cellsOf 80=9:=by kernel_rfl
 have hl9:cs0.toList.length=9:=by rw [hlen,c9]
 have e0:=hel 0 (by omega)
 have e1:=hel 1 (by omega)
 have e2:=hel 2 (by omega)
 rw [c3] at e0 e1 e2
 match xs,hn,hx1,e0,e1,e2 with
 | [x0,x1,x2],_,hx1,e0,e1,e2 =>
  have hx:=congrArg Prod.fst hx1
  simp only [Rows.laid_craquelure_handle_parts,List.map_cons,List.map_nil,DataW.agg.injEq,List.cons.injEq,and_true] at hx
  obtain ⟨y0,y1,y2⟩:=hx
  have f0:=trod_prt (q:=x0.2) (by simp [hl9]) (e0.trans (by rw [y0];rfl))
  have f1:=trod_prt (q:=x1.2) (by simp [hl9]) (e1.trans (by rw [y1];rfl))
  have f2:=trod_prt (q:=x2.2) (by simp [hl9]) (e2.trans (by rw [y2];rfl))
  have hcs:cs0.toList=prtC 0++prtC 1++prtC 2:=by
   have h0:cs0.toList=(cs0.toList.drop (0*3)).take 3++((cs0.toList.drop (1*3)).take 3++(cs0.toList.drop (2*3)).take 3):=by
    generalize cs0.toList=l at hl9 ⊢
    match l,hl9 with
    | [_,_,_,_,_,_,_,_,_],_=>rfl
   rw [h0,f0,f1,f2]
   rfl
  intro j v hv
  rw [World.var?_cell hg0 hv0 j,←Array.getElem?_toList,hcs]
  exact hv
theorem han_of_laid {W : World} (h : laidMetH Tryd.prog [("math/bits.deBruijn32tab", Rows.laid_math_bits_deBruijn32tab), ("math/bits.deBruijn64tab", Rows.laid_math_bits_deBruijn64tab), ("internal/strconv.uint64pow10", Rows.laid_internal_strconv_uint64pow10), ("strconv.ErrRange", Rows.laid_strconv_ErrRange), ("strconv.ErrSyntax", Rows.laid_strconv_ErrSyntax), ("craquelure/handle.parts", Rows.laid_craquelure_handle_parts)] W) : HanW W := by
 rw [MakeChecks.laidMetH_plain _ _ _ (by kernel_rfl)] at h
 exact ⟨pt_of_laid h.tail.tail.tail.tail.tail,bz_of_laid h.tail,ev_of_laid h.tail.tail.tail.tail⟩
end Go.Proofs.YtpndfahgflgocaaDoor

