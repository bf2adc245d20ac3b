import Derived.Test.YtpndfahgflgocaaGreatDoorXt23
import Derived.Test.YtpndfahgflgocaaGreatDoorRows
import Derived.Lib.SmallJoins
import Derived.OpenShut
import Derived.ProofKit
import Derived.LaidMore
import Derived.Stop.Joined
import Derived.Stop.LaidErr

namespace Go.Proofs.YtpndfahgflgocaaGreatDoor
open Go.RowKit Go.WideShapes Go.ChangeShapes Plain

theorem star_err : "*" ++ "errors.errorString" = "*errors.errorString" := by decide
set_option maxRecDepth 100000 in
theorem row_err (u : TypeId) (h : Tryz.prog.typeName? 3 u = some "*errors.errorString") : u = 240 :=
 typeName_ptr_named (nm := "errors.errorString") (by rw [star_err]; kernel_rfl) (by kernel_rfl) (by decide) u (by rw [star_err]; exact h)
theorem cut_oneP {l:List Value} {j:Nat} (h:j < l.length):(l.drop j).take 1=[l[j]]:=by
 rw [List.drop_eq_getElem_cons h,List.take_succ_cons,List.take_zero]
theorem ev_of_laid {r : List (String × DataW Unit)} {W : World} (h : laidMet Tryz.prog (("strconv.ErrSyntax", Rows.laid_strconv_ErrSyntax) :: r) W) : EvW W := by
 obtain ⟨a,s,hv,-,-,-⟩:=laid_sentinel (g:=1) (ti:=151) (te:=242) (ts:=9) h (by kernel_rfl) (by kernel_rfl) Tryz.underlying151 row_err Tryz.underlying240 Tryz.underlying242 rfl rfl Tryz.underlying9 (by kernel_rfl) (by kernel_rfl)
 refine ⟨_,World.var?_cell (g:=1) (by kernel_rfl) hv 0,.inr ⟨_,_,rfl⟩⟩
set_option maxRecDepth 100000 in
theorem bz_of_laid {r : List (String × DataW Unit)} {W : World} (h : laidMet Tryz.prog (("math/bits.deBruijn64tab", Rows.laid_math_bits_deBruijn64tab) :: r) W) : BzW W := by
 obtain ⟨ps,⟨g0,t0,cs0,f0,p0,q0,hg0,ht0,hv0,hd0,_,_⟩,_,_⟩:=h
 have gN : Tryz.prog.globalNamed "math/bits.deBruijn64tab" = some 6 := by kernel_rfl
 have tN:(Tryz.prog.globals[6]?).map (·.type)=some 265:=by kernel_rfl
 obtain rfl:=Option.some.inj (gN.symm.trans hg0)
 obtain rfl:=Option.some.inj (tN.symm.trans ht0)
 obtain ⟨xs,m1,rfl,hx1,hlen,hn,hel⟩:=DataW.trod_array Tryz.underlying265 hd0
 have c1:Tryz.prog.cellsOf 5=1:=by kernel_rfl
 have c64:Tryz.prog.cellsOf 265=64:=by kernel_rfl
 have hj:15 < cs0.toList.length:=by rw [hlen,c64];omega
 have he:=hel 15 (by omega)
 rw [c1,Nat.mul_one,cut_oneP hj,List.getElem?_eq_getElem (show 15 < xs.length by omega)] at he
 obtain ⟨k,e1,e2,_⟩:=DataW.trod_int Tryz.underlying5 he
 have ec:cs0.toList[15]=.int .u8 k:=by simpa using e1
 have hk:k=4:=by
  have hx:=congrArg Prod.fst hx1
  simp only [Rows.laid_math_bits_deBruijn64tab,DataW.agg.injEq] at hx
  have h1:(xs.map (·.1))[15]?=some (xs[15]'(by omega)).1:=by rw [List.getElem?_map,List.getElem?_eq_getElem (show 15 < xs.length by omega)];rfl
  rw [←hx,e2] at h1
  simp at h1
  omega
 unfold BzW
 rw [World.var?_cell hg0 hv0 15,←Array.getElem?_toList,List.getElem?_eq_getElem hj,ec,hk]
set_option maxRecDepth 100000 in
theorem trod_prt {n:Nat} {l:List Value} {a b c:Int} {q:List MemPlace} {W:World} {enc:TypeId×Value→Unit} {base:Nat} {sp:Nat→Bool} {held:Bool} (hl:l.length=3) (h:DataW.trod enc Tryz.prog W base sp held n 107 l=some (.agg [.lit (.int .i64 a),.lit (.int .i64 b),.lit (.int .i64 c)],q)):l=[.int .i64 a,.int .i64 b,.int .i64 c]:=by
 obtain ⟨xs,m,-,hx,-,hlen,hp⟩:=DataW.trod_struct Tryz.underlying107 h
 have h1:Tryz.prog.cellsOf 3=1:=by kernel_rfl
 match xs,l,hlen,hl,hp,hx with
 | [x0,x1,x2],[c0,c1,c2],_,_,hp,hx =>
  have p0:=hp 0 _ rfl
  have p1:=hp 1 _ rfl
  have p2:=hp 2 _ rfl
  obtain ⟨k0,e0,f0,-⟩:=DataW.trod_int Tryz.underlying3 (cs:=[c0]) p0
  obtain ⟨k1,e1,f1,-⟩:=DataW.trod_int Tryz.underlying3 (cs:=[c1]) p1
  obtain ⟨k2,e2,f2,-⟩:=DataW.trod_int Tryz.underlying3 (cs:=[c2]) p2
  subst f0 f1 f2
  simp at hx e0 e1 e2
  obtain ⟨⟨rfl,rfl,rfl⟩,-⟩:=hx
  rw [e0,e1,e2]
set_option maxRecDepth 100000 in
theorem pt_of_laid {r : List (String × DataW Unit)} {W : World} (h : laidMet Tryz.prog (("craquelure/handle.parts", Rows.laid_craquelure_handle_parts) :: r) W) : PtW W := by
 obtain ⟨ps,⟨g0,t0,cs0,f0,p0,q0,hg0,ht0,hv0,hd0,_,_⟩,_,_⟩:=h
 have gN : Tryz.prog.globalNamed "craquelure/handle.parts" = some 0 := by kernel_rfl
 have tN:(Tryz.prog.globals[0]?).map (·.type)=some 108:=by kernel_rfl
 obtain rfl:=Option.some.inj (gN.symm.trans hg0)
 obtain rfl:=Option.some.inj (tN.symm.trans ht0)
 obtain ⟨xs,m1,rfl,hx1,hlen,hn,hel⟩:=DataW.trod_array Tryz.underlying108 hd0
 have c3:Tryz.prog.cellsOf 107=3:=by kernel_rfl
 have c9:Tryz.prog.cellsOf 108=9:=by kernel_rfl
 have hl9:cs0.toList.length=9:=by rw [hlen,c9]
 have e0:=hel 0 (by omega)
 have e1:=hel 1 (by omega)
 have e2:=hel 2 (by omega)
 rw [c3] at e0 e1 e2
 match xs,hn,hx1,e0,e1,e2 with
 | [x0,x1,x2],_,hx1,e0,e1,e2 =>
  have hx:=congrArg Prod.fst hx1
  simp only [Rows.laid_craquelure_handle_parts,List.map_cons,List.map_nil,DataW.agg.injEq,List.cons.injEq,and_true] at hx
  obtain ⟨y0,y1,y2⟩:=hx
  have f0:=trod_prt (q:=x0.2) (by simp [hl9]) (e0.trans (by rw [y0];rfl))
  have f1:=trod_prt (q:=x1.2) (by simp [hl9]) (e1.trans (by rw [y1];rfl))
  have f2:=trod_prt (q:=x2.2) (by simp [hl9]) (e2.trans (by rw [y2];rfl))
  have hcs:cs0.toList=prtC 0++prtC 1++prtC 2:=by
   have h0:cs0.toList=(cs0.toList.drop (0*3)).take 3++((cs0.toList.drop (1*3)).take 3++(cs0.toList.drop (2*3)).take 3):=by
    generalize cs0.toList=l at hl9 ⊢
    match l,hl9 with
    | [_,_,_,_,_,_,_,_,_],_=>rfl
   rw [h0,f0,f1,f2]
   rfl
  intro j v hv
  rw [World.var?_cell hg0 hv0 j,←Array.getElem?_toList,hcs]
  exact hv
theorem han_of_laid {W : World} (h : laidMetH Tryz.prog [("math/bits.deBruijn32tab", Rows.laid_math_bits_deBruijn32tab), ("math/bits.deBruijn64tab", Rows.laid_math_bits_deBruijn64tab), ("internal/strconv.uint64pow10", Rows.laid_internal_strconv_uint64pow10), ("strconv.ErrRange", Rows.laid_strconv_ErrRange), ("strconv.ErrSyntax", Rows.laid_strconv_ErrSyntax), ("craquelure/handle.parts", Rows.laid_craquelure_handle_parts)] W) : HanW W := by
 rw [MakeChecks.laidMetH_plain _ _ _ (by kernel_rfl)] at h
 exact ⟨pt_of_laid h.tail.tail.tail.tail.tail,bz_of_laid h.tail,ev_of_laid h.tail.tail.tail.tail⟩
end Go.Proofs.YtpndfahgflgocaaGreatDoor

