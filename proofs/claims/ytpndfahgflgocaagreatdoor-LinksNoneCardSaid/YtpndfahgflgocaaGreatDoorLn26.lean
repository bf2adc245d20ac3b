import Derived.Test.YtpndfahgflgocaaGreatDoorLn23
import Derived.Test.YtpndfahgflgocaaGreatDoorLn15
import Derived.Test.YtpndfahgflgocaaGreatDoorLn21
import Derived.Test.YtpndfahgflgocaaGreatDoorLn22
import Derived.Test.YtpndfahgflgocaaGreatDoorLn20
import Derived.Test.YtpndfahgflgocaaGreatDoorLn25
import Derived.Test.YtpndfahgflgocaaGreatDoorLn18
import Derived.Test.YtpndfahgflgocaaGreatDoorLn9

namespace Go.Proofs.YtpndfahgflgocaaGreatDoor
open Go.RowKit Go.Shelf Plain

section
variable {gS gL : Nat} {p : List UInt8 → Bool} {B0 : Nat}
set_option maxRecDepth 100000 in
set_option maxHeartbeats 8000000 in
theorem DelSO_any {base : Nat} {A : Option Addr} {n c : Nat} {l : List (List UInt8)} (w : World) (h : Ow st w base 9 A n c l) (hn : n ≤ 100000)
  (hdel:∀(W:World) (nm:List UInt8) (r:Bool),p nm=r→Kept (Under B0) w W→w.heap.size≤W.heap.size→Calls Tryz.prog 146 #[.string ⟨nm.toArray⟩,.pointer (some ⟨gS,0,none⟩),.pointer (some ⟨gL,0,none⟩)] W (BoolB W r)) (hB0:B0≤base) (hB1:B0≤w.heap.size) :
  Calls Tryz.prog 125 #[.slice A n c,.func (.func 146) #[] #[.pointer (some ⟨gS,0,none⟩),.pointer (some ⟨gL,0,none⟩)]] w (fun e w'=>∃A c m,e=.returned (.slice A m c)∧Ow st w' base 9 A m c (l.filter (fun x=>!p x))∧Below B0 w w'):=by
 have hl:l.length=n:=by have:=h.1;simpa using this
 have H:=hide h
 have HD:=hide hdel
 have HRD:=hide h.rd
 clear h hdel
 go_enter Tryz.func125,Tryz.ntmps125
 go_wp2_with fail
 refine (IdxN_any (p:=p) (B0:=B0) w HRD.out hn HD.out hB1).mono ?_
 rintro ez w1 ⟨i,rfl,hi,hb1⟩
 have HB1:=hide hb1
 have hs1:=hb1.size
 clear hb1
 rcases hi with ⟨rfl,hall⟩|⟨k,x,rfl,hx,hp,hall⟩
 ·have HALL:=hide hall
  clear hall
  go_wp2_with fail
  go_ret
  refine ⟨A,c,n,rfl,?_,HB1.out.mono (by omega)⟩
  rw [List.filter_eq_self.2 (fun x hx=>by rw [HALL.out x hx];rfl)]
  exact H.out.below HB1.out
 ·have hk:=(List.getElem?_eq_some_iff.1 hx).1
  obtain ⟨g,cs,hA,hbg,hrow,hcl,hnc,hct,hcm⟩:∃g cs,A=some ⟨g,0,none⟩∧base≤g∧RowL w g 9 cs∧cs.length=c∧n≤c∧cs.take n=l.map st∧c≤maxLen:=by
   rcases H.out.2 with ⟨_,h1⟩|⟨g,cap,cur,h1,h2,h3,h4,h5,h6,h7⟩
   ·omega
   ·cases h1
    exact ⟨g,cur.toList,rfl,h2,by simpa [RowL] using h3,by simpa using h6,h4,by simpa using h7,h5⟩
  have hgl:=hrow.lt
  have HD0:=hide (show DelN p l n c g k (k+1) w1 from by
   have e:(l.take k).filter (fun x=>!p x)=l.take k:=List.filter_eq_self.2 (fun y hy=>by rw [hall y hy];rfl)
   refine DelN.skip (b:=k) ⟨cs,hrow.on HB1.out,hcl,hnc,by rw [e,List.length_take];omega,?_,fun i y hi hy=>?_⟩ hx hp
   ·rw [e]
    have e2:=congrArg (List.take k) hct
    rw [List.take_take,Nat.min_eq_left (by omega),←List.map_take] at e2
    exact e2
   ·have hin:=(List.getElem?_eq_some_iff.1 hy).1
    rw [←List.getElem?_take_of_lt (show i < n by omega),hct,List.getElem?_map,hy]
    rfl)
  subst hA
  have hkn:((k:Int) == -1)=false:=by rw [beq_eq_false_iff_ne];omega
  have HB1K:=hide (HB1.out.mono hB1:Below B0 w w1)
  clear hx hp hall hrow hct hcl
  go_wp2_with fail
  go_loopw [5,6,7] (fun iv jv _ wr=>∃a b:Nat,a < b∧b≤n∧iv=.int .i64 a∧jv=.int .i64 b∧Hid (DelN p l n c g a b wr)∧Below B0 w wr∧w.heap.size≤wr.heap.size) (fun _ jv _ _=>n - (intOf jv).toNat)
  case atStart=>exact ⟨k,k+1,by omega,by omega,rfl,by go_num,HD0,HB1K.out,hs1⟩
  case round =>
   obtain ⟨a,b,hab,hbn,rfl,rfl,HDA,hbr,hsr⟩:=hrel
   have HBR:=hide hbr
   clear hbr
   by_cases hlt:b < n
   ·obtain ⟨x,hx⟩:∃x,l[b]?=some x:=⟨_,List.getElem?_eq_getElem (by omega)⟩
    obtain ⟨r,hr⟩:∃r,p x=r:=⟨_,rfl⟩
    have q:wr.cell? ⟨g,b,none⟩=some (.string ⟨x.toArray⟩):=by
     obtain ⟨cs,h1,h2,h3,h4,h5,h6⟩:=HDA.out
     rw [h1.cell]
     exact h6 b x (Nat.le_refl _) hx
    have HX:=hide hx
    have HR:=hide hr
    clear hx hr
    go_wp2_with fail
    refine (HD.out wr x r HR.out (Kept.of_below HBR.out (fun b hb=>hb)) hsr).mono ?_
    rintro ez w2 ⟨rfl,hb2⟩
    have HD2:=hide (HDA.out.on hb2)
    have HB2:=hide (HBR.out.trans (hb2.mono (by omega)))
    have hs2:=hb2.size
    clear hb2 q
    cases r with
    | true =>
     go_wp2_with fail
     go_roundw
     case rel=>exact ⟨a,b+1,by omega,by omega,rfl,by go_num,hide (HD2.out.skip HX.out HR.out),HB2.out,by omega⟩
     case measure=>simp [intOf];omega
    | false =>
     obtain ⟨ca,qa⟩:∃ca,w2.cell? ⟨g,a,none⟩=some ca:=by
      obtain ⟨cs,h1,h2,h3,h4,h5,h6⟩:=HD2.out
      exact ⟨_,(h1.cell a).trans (List.getElem?_eq_getElem (by omega))⟩
     have fa:w2.frozen? ⟨g,a,none⟩=false:=by
      obtain ⟨cs,h1,-⟩:=HD2.out
      exact h1.frozen a
     go_wp2_with fail
     go_roundw
     case rel=>exact ⟨a+1,b+1,by omega,by omega,by go_num,by go_num,hide (HD2.out.put HX.out HR.out hab (by omega)),HB2.out.setCell (p:=⟨g,a,none⟩) (by show B0≤g;omega) _,by simp [World.setCell];omega⟩
     case measure=>simp [intOf];omega
   ·obtain rfl:b=n:=by omega
    obtain ⟨cs,h1,h2,h3,h4,h5,h6⟩:=HDA.out
    obtain ⟨Z,hZ,hclr⟩:=run_clear_st wr g a (b - a) (c - a) 9 cs (by omega) h1 (by omega)
    have HW:=hide (h1.setRow_ (splice cs a Z))
    have HG:=hide (grownBy_setRow wr g (splice cs a Z).toArray)
    have ht:(splice cs a Z).take a=(l.filter (fun x=>!p x)).map st:=by
     rw [take_splice_pre _ _ _ (by rw [hZ];omega),h5,List.take_of_length_le (by omega)]
    have hla:(l.filter (fun x=>!p x)).length=a:=by rw [List.take_of_length_le (by omega)] at h4;exact h4
    have HT:=hide ht
    have HLA:=hide hla
    have HCL2:=hide h2
    have HSP:=hide (show (splice cs a Z).length=cs.length from by unfold splice;rw [List.length_append,List.length_append,List.length_take,List.length_drop,hZ];omega)
    clear h1 h2 h4 h5 h6 hZ ht hla HDA
    go_wp2_with fail
    go_ret
    refine ⟨_,_,a,rfl,⟨by simp [HLA.out],.inr ⟨g,c,(splice cs a Z).toArray,rfl,hbg,HW.out,by omega,hcm,?_,by simpa using HT.out⟩⟩,HBR.out.grown HG.out (by omega) (pu4 (by omega))⟩
    have h2':=HCL2.out
    simp only [List.size_toArray]
    rw [HSP.out]
    omega
set_option maxRecDepth 100000 in
set_option maxHeartbeats 4000000 in
theorem IdxV_any {A : Option Addr} {n c : Nat} {l : List (List UInt8)} (w : World) (h : Rd st w w.heap.size A n l) (hn : n ≤ 100000)
  (hdel:∀(W:World) (nm:List UInt8) (r:Bool),p nm=r→Kept (Under B0) w W→w.heap.size≤W.heap.size→Calls Tryz.prog 123 #[.string ⟨nm.toArray⟩,.pointer (some ⟨gS,0,none⟩)] W (BoolB W r)) (hB0:B0≤w.heap.size) :
  Calls Tryz.prog 150 #[.slice A n c,.func (.func 123) #[] #[.pointer (some ⟨gS,0,none⟩)]] w (IdxRet w p l):=by
 have H:=hide h
 have hl:=h.len
 have HD:=hide hdel
 clear h hdel
 go_enter Tryz.func150,Tryz.ntmps150
 go_wp2
 go_loopw [8] (fun v8 wr=>∃j:Nat,j≤n∧v8=.int .i64 j∧Below w.heap.size w wr∧∀y∈l.take j,p y=false) (fun v8 _=>n - (intOf v8).toNat)
 case atStart=>exact ⟨0,by omega,rfl,below_self _,by simp⟩
 case round =>
  obtain ⟨j,hj,rfl,hbr,hall⟩:=hrel
  have HALL:=hide hall
  have HBR:=hide hbr
  clear hall hbr
  by_cases hlt:j < n
  ·obtain ⟨x,hx⟩:∃x,l[j]?=some x:=⟨_,List.getElem?_eq_getElem (by omega)⟩
   obtain ⟨b,o,rfl,hb,hq⟩:=st_cell H.out hx
   have q:wr.cell? ⟨b,o+j,none⟩=some (.string ⟨x.toArray⟩):=(HBR.out.cell (p:=⟨b,o+j,none⟩) hb).trans hq
   have HX:=hide hx
   obtain ⟨r,hr⟩:∃r,p x=r:=⟨_,rfl⟩
   have HR:=hide hr
   have hjn:(j:Int) < (n:Int):=by omega
   clear hx hq hr
   go_wp2_with fail
   refine (HD.out wr x r HR.out (Kept.of_below HBR.out (fun b hb=>Nat.lt_of_lt_of_le hb hB0)) HBR.out.size).mono ?_
   rintro ez w2 ⟨rfl,hb2⟩
   have HB2:=hide (HBR.out.trans (hb2.mono HBR.out.size))
   clear hb2 q
   cases r with
   | false =>
    go_wp2_with fail
    go_roundw
    case rel=>exact ⟨j+1,by omega,by go_num,HB2.out,fun y hy=>by
     rw [List.take_add_one,HX.out,List.mem_append] at hy
     rcases hy with hy|hy
     ·exact HALL.out y hy
     ·simp at hy;rw [hy];exact HR.out⟩
    case measure=>simp [intOf];omega
   | true =>
    go_wp2_with fail
    go_ret
    exact ⟨(j:Int),rfl,.inr ⟨j,x,rfl,HX.out,HR.out,HALL.out⟩,HB2.out⟩
  ·obtain rfl:j=n:=by omega
   go_wp2_with fail
   go_ret
   exact ⟨-1,rfl,.inl ⟨rfl,fun y hy=>HALL.out y (by rw [List.take_of_length_le (by omega)];exact hy)⟩,HBR.out⟩
set_option maxRecDepth 100000 in
set_option maxHeartbeats 8000000 in
theorem DelVO_any {base : Nat} {A : Option Addr} {n c : Nat} {l : List (List UInt8)} (w : World) (h : Ow st w base 9 A n c l) (hn : n ≤ 100000)
  (hdel:∀(W:World) (nm:List UInt8) (r:Bool),p nm=r→Kept (Under B0) w W→w.heap.size≤W.heap.size→Calls Tryz.prog 123 #[.string ⟨nm.toArray⟩,.pointer (some ⟨gS,0,none⟩)] W (BoolB W r)) (hB0:B0≤base) (hB1:B0≤w.heap.size) :
  Calls Tryz.prog 125 #[.slice A n c,.func (.func 123) #[] #[.pointer (some ⟨gS,0,none⟩)]] w (fun e w'=>∃A c m,e=.returned (.slice A m c)∧Ow st w' base 9 A m c (l.filter (fun x=>!p x))∧Below B0 w w'):=by
 have hl:l.length=n:=by have:=h.1;simpa using this
 have H:=hide h
 have HD:=hide hdel
 have HRD:=hide h.rd
 clear h hdel
 go_enter Tryz.func125,Tryz.ntmps125
 go_wp2_with fail
 refine (IdxV_any (p:=p) (B0:=B0) w HRD.out hn HD.out hB1).mono ?_
 rintro ez w1 ⟨i,rfl,hi,hb1⟩
 have HB1:=hide hb1
 have hs1:=hb1.size
 clear hb1
 rcases hi with ⟨rfl,hall⟩|⟨k,x,rfl,hx,hp,hall⟩
 ·have HALL:=hide hall
  clear hall
  go_wp2_with fail
  go_ret
  refine ⟨A,c,n,rfl,?_,HB1.out.mono (by omega)⟩
  rw [List.filter_eq_self.2 (fun x hx=>by rw [HALL.out x hx];rfl)]
  exact H.out.below HB1.out
 ·have hk:=(List.getElem?_eq_some_iff.1 hx).1
  obtain ⟨g,cs,hA,hbg,hrow,hcl,hnc,hct,hcm⟩:∃g cs,A=some ⟨g,0,none⟩∧base≤g∧RowL w g 9 cs∧cs.length=c∧n≤c∧cs.take n=l.map st∧c≤maxLen:=by
   rcases H.out.2 with ⟨_,h1⟩|⟨g,cap,cur,h1,h2,h3,h4,h5,h6,h7⟩
   ·omega
   ·cases h1
    exact ⟨g,cur.toList,rfl,h2,by simpa [RowL] using h3,by simpa using h6,h4,by simpa using h7,h5⟩
  have hgl:=hrow.lt
  have HD0:=hide (show DelN p l n c g k (k+1) w1 from by
   have e:(l.take k).filter (fun x=>!p x)=l.take k:=List.filter_eq_self.2 (fun y hy=>by rw [hall y hy];rfl)
   refine DelN.skip (b:=k) ⟨cs,hrow.on HB1.out,hcl,hnc,by rw [e,List.length_take];omega,?_,fun i y hi hy=>?_⟩ hx hp
   ·rw [e]
    have e2:=congrArg (List.take k) hct
    rw [List.take_take,Nat.min_eq_left (by omega),←List.map_take] at e2
    exact e2
   ·have hin:=(List.getElem?_eq_some_iff.1 hy).1
    rw [←List.getElem?_take_of_lt (show i < n by omega),hct,List.getElem?_map,hy]
    rfl)
  subst hA
  have hkn:((k:Int) == -1)=false:=by rw [beq_eq_false_iff_ne];omega
  have HB1K:=hide (HB1.out.mono hB1:Below B0 w w1)
  clear hx hp hall hrow hct hcl
  go_wp2_with fail
  go_loopw [5,6,7] (fun iv jv _ wr=>∃a b:Nat,a < b∧b≤n∧iv=.int .i64 a∧jv=.int .i64 b∧Hid (DelN p l n c g a b wr)∧Below B0 w wr∧w.heap.size≤wr.heap.size) (fun _ jv _ _=>n - (intOf jv).toNat)
  case atStart=>exact ⟨k,k+1,by omega,by omega,rfl,by go_num,HD0,HB1K.out,hs1⟩
  case round =>
   obtain ⟨a,b,hab,hbn,rfl,rfl,HDA,hbr,hsr⟩:=hrel
   have HBR:=hide hbr
   clear hbr
   by_cases hlt:b < n
   ·obtain ⟨x,hx⟩:∃x,l[b]?=some x:=⟨_,List.getElem?_eq_getElem (by omega)⟩
    obtain ⟨r,hr⟩:∃r,p x=r:=⟨_,rfl⟩
    have q:wr.cell? ⟨g,b,none⟩=some (.string ⟨x.toArray⟩):=by
     obtain ⟨cs,h1,h2,h3,h4,h5,h6⟩:=HDA.out
     rw [h1.cell]
     exact h6 b x (Nat.le_refl _) hx
    have HX:=hide hx
    have HR:=hide hr
    clear hx hr
    go_wp2_with fail
    refine (HD.out wr x r HR.out (Kept.of_below HBR.out (fun b hb=>hb)) hsr).mono ?_
    rintro ez w2 ⟨rfl,hb2⟩
    have HD2:=hide (HDA.out.on hb2)
    have HB2:=hide (HBR.out.trans (hb2.mono (by omega)))
    have hs2:=hb2.size
    clear hb2 q
    cases r with
    | true =>
     go_wp2_with fail
     go_roundw
     case rel=>exact ⟨a,b+1,by omega,by omega,rfl,by go_num,hide (HD2.out.skip HX.out HR.out),HB2.out,by omega⟩
     case measure=>simp [intOf];omega
    | false =>
     obtain ⟨ca,qa⟩:∃ca,w2.cell? ⟨g,a,none⟩=some ca:=by
      obtain ⟨cs,h1,h2,h3,h4,h5,h6⟩:=HD2.out
      exact ⟨_,(h1.cell a).trans (List.getElem?_eq_getElem (by omega))⟩
     have fa:w2.frozen? ⟨g,a,none⟩=false:=by
      obtain ⟨cs,h1,-⟩:=HD2.out
      exact h1.frozen a
     go_wp2_with fail
     go_roundw
     case rel=>exact ⟨a+1,b+1,by omega,by omega,by go_num,by go_num,hide (HD2.out.put HX.out HR.out hab (by omega)),HB2.out.setCell (p:=⟨g,a,none⟩) (by show B0≤g;omega) _,by simp [World.setCell];omega⟩
     case measure=>simp [intOf];omega
   ·obtain rfl:b=n:=by omega
    obtain ⟨cs,h1,h2,h3,h4,h5,h6⟩:=HDA.out
    obtain ⟨Z,hZ,hclr⟩:=run_clear_st wr g a (b - a) (c - a) 9 cs (by omega) h1 (by omega)
    have HW:=hide (h1.setRow_ (splice cs a Z))
    have HG:=hide (grownBy_setRow wr g (splice cs a Z).toArray)
    have ht:(splice cs a Z).take a=(l.filter (fun x=>!p x)).map st:=by
     rw [take_splice_pre _ _ _ (by rw [hZ];omega),h5,List.take_of_length_le (by omega)]
    have hla:(l.filter (fun x=>!p x)).length=a:=by rw [List.take_of_length_le (by omega)] at h4;exact h4
    have HT:=hide ht
    have HLA:=hide hla
    have HCL2:=hide h2
    have HSP:=hide (show (splice cs a Z).length=cs.length from by unfold splice;rw [List.length_append,List.length_append,List.length_take,List.length_drop,hZ];omega)
    clear h1 h2 h4 h5 h6 hZ ht hla HDA
    go_wp2_with fail
    go_ret
    refine ⟨_,_,a,rfl,⟨by simp [HLA.out],.inr ⟨g,c,(splice cs a Z).toArray,rfl,hbg,HW.out,by omega,hcm,?_,by simpa using HT.out⟩⟩,HBR.out.grown HG.out (by omega) (pu4 (by omega))⟩
    have h2':=HCL2.out
    simp only [List.size_toArray]
    rw [HSP.out]
    omega
end
def NamesO (w:World) (L:List (List UInt8)) (e:Ending) (w':World):Prop:=∃A n c,e=.returned (.slice A n c)∧Ow st w' w.heap.size 9 A n c L∧Below w.heap.size w w'
set_option maxRecDepth 100000 in
set_option maxHeartbeats 8000000 in
theorem Names_o {g:GeoQ} {AU AL AP:Option Addr} {nU cU nL cL n cP:Nat} {ls:List (List NodV)} {l:List (Int×Int)} (w:World) (h:RdE layEn w (Under w.heap.size) AL nL ls) (hp:RdE prEn w (Under w.heap.size) AP n l) (hF:FewL ls) (hn:n≤1000) :
  Calls Tryz.prog 122 #[.agg (stkC g (.slice AU nU cU) (.slice AL nL cL)).toArray,.slice AP n cP] w (NamesO w (namesL ls l)):=by
 obtain ⟨r0,r1,hb2,hs2⟩:=rows2 w (stkC g (.slice AU nU cU) (.slice AL nL cL)) [.slice AP n cP] 29 118
 obtain ⟨W2,hW2⟩:∃W2,(w.alloc (.cells (stkC g (.slice AU nU cU) (.slice AL nL cL)).toArray 29)).alloc (.cells [Value.slice AP n cP].toArray 118)=W2:=⟨_,rfl⟩
 rw [hW2] at r0 r1 hb2 hs2
 have hW2':(w.alloc (.cells #[.int .i64 g.a,.int .i64 g.b,.int .i64 g.c,.int .i64 g.d,.slice AU nU cU,.slice AL nL cL] 29)).alloc (.cells #[.slice AP n cP] 118)=W2:=hW2
 have q0:W2.cell? ⟨w.heap.size+1,0,none⟩=some (.slice AP n cP):=r1.cell 0
 have hm:ls.length≤100:=by have:=hF.1;omega
 have HM2:=hide (fun ns (hh:ns∈ls)=>(show ns.length≤1000 from Nat.le_trans (hF.2 ns hh).1 (by omega)))
 have R0:=hide r0
 have HB2:=hide hb2
 have hsl:w.heap.size+2≤W2.heap.size:=by omega
 have HL:=hide (h.under hb2 (Nat.le_refl _))
 have HP:=hide (hp.under hb2 (Nat.le_refl _))
 have HPL:=hide hp.1
 have HF:=hide hF
 have HCX:=hide (show CtxN g AU AL AP nU cU nL cL n cP w.heap.size w.heap.size (w.heap.size+1) ls l W2 from ⟨r0,r1,h.under hb2 (Nat.le_refl _),hp.under hb2 (Nat.le_refl _),by omega⟩)
 have HAL:=hide (fun k=>(show (allN ls (l.take k)).length≤16*k from Nat.le_trans (allN_len hF _) (Nat.mul_le_mul_left _ (by rw [List.length_take];omega))))
 unfold stkC
 clear r0 r1 hb2 hW2 h hp hF hs2
 go_enter Tryz.func122,Tryz.ntmps122
 go_wp2_with fail
 clear hW2' q0
 go_loopw [5,13] (fun v5 v13 wr=>∃(j n5:Nat) (A5:Option Addr) (c5:Nat),j≤n∧v13=.int .i64 j∧v5=.slice A5 n5 c5∧Ow st wr W2.heap.size 9 A5 n5 c5 (allN ls (l.take j))∧Below W2.heap.size W2 wr) (fun _ v13 _=>n - (intOf v13).toNat)
 case atStart=>exact ⟨0,0,none,0,by omega,rfl,rfl,World.ownsRow_nil _ _ _ _,below_self _⟩
 case round =>
  rename World=>wo
  obtain ⟨j,n5,A5,c5,hj,rfl,rfl,ho,hbr⟩:=hrel
  have hn5:n5≤16*j:=by rw [←ho.rd.len];exact HAL.out j
  have HO:=hide ho
  have HBR:=hide hbr
  have hbsz:=hbr.size
  have R0r:=hide (R0.out.on hbr)
  clear ho hbr
  by_cases hlt:j < n
  ·obtain ⟨p,hp⟩:∃p,l[j]?=some p:=⟨_,List.getElem?_eq_getElem (by have:=HPL.out;omega)⟩
   obtain ⟨bP,oP,rfl,hbP,hcP⟩:=pr_get (HP.out.under HBR.out (by omega)) hp
   have HCP:=hide hcP
   have HZP:=hide (RowL.new wo 75 (prC (0,0)))
   have HSU:=hide (allN_succ (ls:=ls) hp)
   obtain ⟨EL,hEL⟩:∃EL,entL ls p=EL:=⟨_,rfl⟩
   have hel:=entL_len HF.out p
   rw [hEL] at hel
   have HEL:=hide hEL
   have hjn:(j:Int) < (n:Int):=by omega
   clear hp hcP hEL
   go_wp2_with (first|(refine wpList_loadX rfl 75 (.tmp 15) rfl 2 plc_agg plc_size bP (oP+j*2) rfl (prC p) HCP.out rfl ?_)|(refine wpList_storeW rfl 75 (.tmp 7) (.tmp 16) rfl 2 plc_size wo.heap.size 75 rfl (prC (0,0)) (prC p) rfl HZP.out rfl rfl (prC_one _) ?_;intro w6 hr6 hg6 hs6;have hb6:=below_stored' hg6;have R6:=hide hr6;have HB6:=hide hb6;have R06:=hide (R0r.out.on hb6);have hs6l:=hb6.size;clear hr6 hg6 hs6 hb6))
   have HQ0:=hide (fun W (hb:Below w6.heap.size w6 W)=>show W.cell? ⟨wo.heap.size,0,none⟩=some (.int .i64 p.1) from (R6.out.on hb).cell 0)
   have HQ1:=hide (fun W (hb:Below w6.heap.size w6 W)=>show W.cell? ⟨wo.heap.size,1,none⟩=some (.int .i64 p.2) from (R6.out.on hb).cell 1)
   have hly:=layL_len HM2.out p.1
   have hely:=ent_lay ls p
   rw [HEL.out] at hely
   obtain ⟨ly,hLY⟩:∃ly,layL ls p.1=ly:=⟨_,rfl⟩
   rw [hLY] at hly hely
   have HLY:=hide hLY
   have HEY:=hide hely
   clear hLY hely
   refine wp_region_planN (fun w'=>Below w6.heap.size w6 w') [(0,true),(1,true),(2,true),(4,true),(5,true),(8,true),(3,false),(6,false),(7,true)] (by kernel_rfl) (by kernel_rfl) (by kernel_rfl) (by kernel_rfl) rfl (fun _ _ _ _ _ h=>h) (below_drew (below_self w6)) (fun hHeld=>?_)
   simp only [planOps,List.filterMap_cons,List.filterMap_nil,List.getElem?_toArray,List.getElem?_cons_succ,List.getElem?_cons_zero,Option.map_some]
   refine wpPlan_take (v:=?_) (by kernel_rfl) (fun wS hSw=>?_) ?_
   rotate_left
   ·refine execOp_load (x:=.tmp 2) (k:=6) (g:=w.heap.size) (off:=0) (cs:=stkC g (.slice AU nU cU) (.slice AL nL cL)) ?_ stk_agg stk_size ?_ (fun j v hv=>by rw [Nat.zero_add];exact ((R06.out.on hSw).cell j).trans hv) rfl <;> rfl
   (try simp only [Act.put,pu1,pu2,pu3])
   refine wpPlan_take (v:=?_) (by kernel_rfl) (fun wS hSw=>?_) ?_
   rotate_left
   ·(try dsimp only at hSw);go_simp;(try with_reducible rfl)
   (try simp only [Act.put,pu1,pu2,pu3])
   refine wpPlan_take (v:=?_) (by kernel_rfl) (fun wS hSw=>?_) ?_
   rotate_left
   ·have qx:=HQ0.out wS hSw;go_simp;(try with_reducible rfl)
   (try simp only [Act.put,pu1,pu2,pu3])
   refine wpPlan_take (v:=?_) (by kernel_rfl) (fun wS hSw=>?_) ?_
   rotate_left
   ·(try dsimp only at hSw);go_simp;(try with_reducible rfl)
   (try simp only [Act.put,pu1,pu2,pu3])
   refine wpPlan_take (v:=?_) (by kernel_rfl) (fun wS hSw=>?_) ?_
   rotate_left
   ·have qx:=HQ1.out wS hSw;go_simp;(try with_reducible rfl)
   (try simp only [Act.put,pu1,pu2,pu3])
   refine wpPlan_take (v:=?_) (by kernel_rfl) (fun wS hSw=>?_) ?_
   rotate_left
   ·(try dsimp only at hSw);go_simp;(try with_reducible rfl)
   (try simp only [Act.put,pu1,pu2,pu3])
   refine wpPlan_call (by kernel_rfl) (fun K hK=>?_)
   have hOld:=hide hHeld
   clear hHeld
   go_simp
   go_at_call 119
   refine (Beneath_e HLY.out (B:=w.heap.size) _ (HL.out.under (HBR.out.trans ((HB6.out.trans (hOld.out.mono hs6l)).mono hbsz)) (by omega)) (by have:=hOld.out.size;omega) hm).mono ?_
   rintro e w' ⟨A1,n1,c1,rfl,e2,e3,hbel⟩
   have HNS:=hide e3
   clear e3
   refine hK.out _ _ (hOld.out.trans (hbel.mono hOld.out.size)) (fun hHeld=>?_)
   clear hK K
   (try simp only [Act.put,pu1,pu2,pu3])
   refine wpPlan_call (by kernel_rfl) (fun K hK=>?_)
   have hOld:=hide hHeld
   clear hHeld
   go_simp
   go_at_call 46
   refine (Entries_e HEY.out (B:=w.heap.size) _ HNS.out (by have:=hOld.out.size;omega) (by omega)).mono ?_
   rintro e w' ⟨C,m,d,rfl,hmd,hE,hbel⟩
   have HE:=hide hE
   clear hE
   refine hK.out _ _ (hOld.out.trans (hbel.mono hOld.out.size)) (fun hHeld=>?_)
   clear hK K
   (try simp only [Act.put,pu1,pu2,pu3])
   refine wpPlan_take (v:=?_) (by kernel_rfl) (fun wS hSw=>?_) ?_
   rotate_left
   ·(try dsimp only at hSw);go_simp;(try with_reducible rfl)
   (try simp only [Act.put,pu1,pu2,pu3])
   refine wpPlan_end ?_
   have HB7:=hide (HB6.out.trans (hHeld.mono hs6l))
   have hs7l:=hHeld.size
   clear hHeld
   (try go_wp2_with fail)
   have HO7:=hide (HO.out.below HB7.out)
   have HBX:=hide (HBR.out.trans (HB7.out.mono hbsz))
   have hs7:=HB7.out.size
   have HEM:=hide HE.out.1
   have hm16:m≤16:=by have:=HEM.out;omega
   go_loopw [5,25] (fun v5 v25 wr=>∃(i n6:Nat) (A6:Option Addr) (c6:Nat),i≤m∧v25=.int .i64 i∧v5=.slice A6 n6 c6∧n6≤16*j+i∧Ow st wr W2.heap.size 9 A6 n6 c6 (allN ls (l.take j)++(EL.take i).map EntV.name)∧Below W2.heap.size W2 wr∧w'.heap.size≤wr.heap.size∧Below w.heap.size w' wr) (fun _ v25 _=>m - (intOf v25).toNat)
   case atStart=>exact ⟨0,n5,A5,c5,by omega,rfl,rfl,by omega,by simpa using HO7.out,HBX.out,Nat.le_refl _,Below.refl _ _⟩
   case round =>
    obtain ⟨i,n6,A6,c6,hi,rfl,rfl,hn6,ho6,hbx,hsx,hbw⟩:=hrel
    have HO6:=hide ho6
    have HBXr:=hide hbx
    have hbxs:=hbx.size
    have HBW:=hide hbw
    clear ho6 hbx hbw
    by_cases hlt2:i < m
    ·obtain ⟨e,he⟩:∃e,EL[i]?=some e:=⟨_,List.getElem?_eq_getElem (by have:=HEM.out;omega)⟩
     obtain ⟨bE,oE,rfl,hbE,hcE⟩:=ent_get ((HE.out.mono (fun b hb=>HBW.out.block b hb) (fun _ h=>h)):RdE entEn wr (Under w.heap.size) C m EL) he
     have HCE:=hide hcE
     have HZE:=hide (RowL.new wr 31 [.int .i64 0,.int .i64 0,.string ⟨#[]⟩])
     have HNS:=hide (names_snoc he (allN ls (l.take j)))
     have him:(i:Int) < (m:Int):=by omega
     clear he hcE
     go_wp2_with (first|(refine wpList_loadX rfl 31 (.tmp 27) rfl 3 entw_agg entw_size bE (oE+i*3) rfl (cellsE e) HCE.out rfl ?_)|(refine wpList_storeW rfl 31 (.tmp 9) (.tmp 28) rfl 3 entw_size wr.heap.size 31 rfl [.int .i64 0,.int .i64 0,.string ⟨#[]⟩] (cellsE e) rfl HZE.out rfl rfl (cellsE_one e) ?_;intro w8 hr8 hg8 hs8;have hb8:=below_stored' hg8;have qn:w8.cell? ⟨wr.heap.size,2,none⟩=some (.string ⟨e.name.toArray⟩):=hr8.cell 2;have HB8:=hide hb8;have hs8l:=hb8.size;clear hr8 hg8 hs8 hb8)|(at_builtin;refine wpList_append_Rd (f:=st) _ rfl (.tmp 29) (.tmp 32) 129 rfl W2.heap.size 9 _ 16 Tryz.underlying129 info_st rfl (fun _=>rfl) A6 n6 c6 _ rfl ((HO6.out.below HB8.out).below (below_new (below_self w8) _)) _ _ 1 1 [e.name] rfl (Rd.one _ _ rfl) (n6+1) rfl (by omega) (by omega) (by simp;omega) ?_;intro A7 c7 w9 ho9 hb9;have HO9:=hide ho9;have hs9:=hb9.size;have HB9:=hide ((HBXr.out.trans ((HB8.out.mono hbxs).alloc (by omega) _)).trans hb9);have HB9w:=hide ((HBW.out.trans ((HB8.out.mono (by omega)).alloc (by omega) _)).trans (hb9.mono (by omega)));clear ho9 hb9))
     have hs9':w8.heap.size≤w9.heap.size:=by simp at hs9;omega
     go_roundw
     case rel=>exact ⟨i+1,n6+1,A7,c7,by omega,by go_num,rfl,by omega,by rw [HNS.out];exact HO9.out,HB9.out,by omega,HB9w.out⟩
     case measure=>simp [intOf];omega
    ·obtain rfl:i=m:=by omega
     go_wp2_with fail
     go_roundw
     case rel=>exact ⟨j+1,n6,A6,c6,by omega,by go_num,rfl,by rw [HSU.out,HEL.out];have:=HO6.out;rwa [List.take_of_length_le (l:=EL) (i:=i) (by have:=HEM.out;omega)] at this,HBXr.out⟩
     case measure=>simp [intOf];omega
  ·obtain rfl:j=n:=by omega
   have ho:=HO.out
   rw [List.take_of_length_le (by have:=HPL.out;omega)] at ho
   have HOF:=hide ho
   have hll:=HPL.out
   clear ho hll
   go_wp2_with fail
   refine (NSort_any wo HOF.out.rd (by omega)).mono ?_
   rintro ez w3 ⟨A3,c3,rfl,ho3,hb3⟩
   have HO3:=hide ho3
   have HB3:=hide (HBR.out.trans (hb3.mono hbsz))
   have hs3:=hb3.size
   have hsl3:=sortS_length (allN ls l)
   have hl0:=HOF.out.rd.len
   have hsb:(sortS (allN ls l)).length≤100000:=by omega
   clear hb3 ho3 hsl3 hl0
   go_wp2_with fail
   refine (DelSO_any (p:=hidS ls l) (B0:=W2.heap.size) (base:=wo.heap.size) w3 HO3.out hsb (fun W nm r hr hk hs=>HidN_any hr W (HCX.out.kept (B0:=W2.heap.size) (fun b hb=>(hk b hb).trans (HB3.out.block b hb)) (by omega) (by omega) (by omega) (by omega)) HF.out hn) hbsz (by omega)).mono ?_
   rintro ez w4 ⟨A4,c4,n4,rfl,hr4,hb4⟩
   have HR4:=hide hr4
   have HB4:=hide (HB2.out.trans ((HB3.out.trans hb4).mono (by omega)))
   clear hr4 hb4
   go_wp2_with fail
   go_ret
   exact ⟨A4,n4,c4,rfl,HR4.out.rebase (by omega),HB4.out⟩
def CtxV (g:GeoQ) (AU AL AV:Option Addr) (nU cU nL cL nV cV B gS:Nat) (u:Int) (up:List NodV) (ls:List (List NodV)) (vl:List (Int×Int)) (W:World):Prop:=RowL W gS 187 (vwdC g (.slice AU nU cU) (.slice AL nL cL) u (.slice AV nV cV))∧RdE nodEn W (Under B) AU nU up∧RdE layEn W (Under B) AL nL ls∧RdE prEn W (Under B) AV nV vl∧B≤W.heap.size
theorem CtxV.kept {g:GeoQ} {AU AL AV:Option Addr} {nU cU nL cL nV cV B B0 gS:Nat} {u:Int} {up:List NodV} {ls:List (List NodV)} {vl:List (Int×Int)} {W W':World} (h:CtxV g AU AL AV nU cU nL cL nV cV B gS u up ls vl W) (hk:Kept (Under B0) W W') (hS:gS < B0) (hB:B≤B0) (hs:W.heap.size≤W'.heap.size):CtxV g AU AL AV nU cU nL cL nV cV B gS u up ls vl W' :=
 ⟨(hk gS hS).trans h.1,h.2.1.mono (fun b hb=>hk b (Nat.lt_of_lt_of_le hb hB)) (fun _ h=>h),h.2.2.1.mono (fun b hb=>hk b (Nat.lt_of_lt_of_le hb hB)) (fun _ h=>h),h.2.2.2.1.mono (fun b hb=>hk b (Nat.lt_of_lt_of_le hb hB)) (fun _ h=>h),Nat.le_trans h.2.2.2.2 hs⟩
set_option maxRecDepth 100000 in
set_option maxHeartbeats 4000000 in
theorem HidV_any {g:GeoQ} {AU AL AV:Option Addr} {nU cU nL cL nV cV B gS:Nat} {u:Int} {up:List NodV} {ls:List (List NodV)} {vl:List (Int×Int)} {nm:List UInt8} {r:Bool} (hr:hidV up ls (u,vl) nm=r) (W:World) (h:CtxV g AU AL AV nU cU nL cL nV cV B gS u up ls vl W) (hF:FewL ls) (hup:FewX up) (hnV:nV≤1000) :
  Calls Tryz.prog 123 #[.string ⟨nm.toArray⟩,.pointer (some ⟨gS,0,none⟩)] W (BoolB W r):=by
 obtain ⟨h1,h2,h3,h4,hB⟩:=h
 have hBV:=hB
 have R1:=hide h1
 have HU:=hide h2
 have HL:=hide h3
 have HV:=hide h4
 have HF:=hide hF
 have HFU:=hide hup
 obtain ⟨S,hS⟩:∃S,stepV up ls (u,vl) nm=S:=⟨_,rfl⟩
 have hb:(S.1==0)=r:=by
  rw [←hr,←hS]
  unfold hidV
  rw [Bool.eq_iff_iff]
  simp
 have HS:=hide hS
 clear hr hS h1 h2 h3 h4 hF hup
 go_enter Tryz.func123,Tryz.ntmps123
 go_wp2_with (first|(refine wpList_loadW rfl 187 (.tmp 1) rfl 8 vwd_agg vwd_size (gS) 187 rfl (vwdC g (.slice AU nU cU) (.slice AL nL cL) u (.slice AV nV cV)) R1.out rfl ?_)|(go_at_call 124;refine (VStepI_e (B:=B) (BV:=B) HS.out W HU.out HL.out hB HF.out HFU.out HV.out hBV hnV).mono ?_;rintro e1 wB ⟨A3,c3,rfl,-,hbel⟩;have HB:=hide hbel;replace R1:=hide (R1.out.on hbel);have hsz2:=hbel.size;clear hbel)|(obtain ⟨hz5,hz6,hzb,hzs⟩:=rows2 wB (viwC 0 (.slice none 0 0)) (prC (0,0)) 120 75;refine wpList_storeW rfl 120 (.tmp 5) (.tmp 12) rfl 2 viw_size (wB.heap.size) 120 rfl (viwC 0 (.slice none 0 0)) (viwC S.2.1.1 (.slice A3 S.2.1.2.length c3)) rfl hz5 rfl rfl (viwC_one _ _ _ _) ?_;intro wS3 hr3 hg3 hs3;replace hzb:=hzb.grown hg3 hzb.size (pu4 (by omega));replace hz6:=hz6.grown hg3 (pu5 (by omega));have hz5:=hr3;clear hg3 hs3 hr3)|(refine wpList_storeW rfl 75 (.tmp 6) (.tmp 13) rfl 2 plc_size (wB.heap.size+1) 75 rfl (prC (0,0)) (prC S.2.2) rfl hz6 rfl rfl (prC_one _) ?_;intro wS4 hr4 hg4 hs4;replace hzb:=hzb.grown hg4 hzb.size (pu4 (by omega));replace hz5:=hz5.grown hg4 (pu5 (by omega));have hz6:=hr4;replace HB:=hide (HB.out.trans (hzb.mono HB.out.size));replace R1:=hide (R1.out.on hzb);have hsz5:=hzb.size;have RV:=hide hz5;have hlt3:=hz5.lt;have RP:=hide hz6;have hlt4:=hz6.lt;clear hzb hzs hz5 hz6;clear hg4 hs4))
 go_ret
 exact BoolB.of HB.out
set_option maxRecDepth 100000 in
set_option maxHeartbeats 16000000 in
theorem VNames_any {g:GeoQ} {AU AL:Option Addr} {nU cU nL cL B:Nat} {up:List NodV} {ls:List (List NodV)} {u:Int} {AV:Option Addr} {nV cV BV:Nat} {vl:List (Int×Int)} (w:World) (hu:RdE nodEn w (Under B) AU nU up) (h:RdE layEn w (Under B) AL nL ls) (hB:B≤w.heap.size) (hF:FewL ls) (hup:FewX up) (hv:RdE prEn w (Under BV) AV nV vl) (hBV:BV≤w.heap.size) (hnV:nV≤1000):Calls Tryz.prog 100 #[.agg (stkC g (.slice AU nU cU) (.slice AL nL cL)).toArray,.agg (viwC u (.slice AV nV cV)).toArray] w (NamesO w (namesV up ls (u,vl))):=by
 obtain ⟨W1,hW1⟩:∃W1,((w.alloc (.cells (stkC g (.slice AU nU cU) (.slice AL nL cL)).toArray 29)).alloc (.cells (viwC u (.slice AV nV cV)).toArray 120))=W1:=⟨_,rfl⟩
 obtain ⟨r0,r1,hb1,hs1⟩:=rowA2 w _ _ _ _ hW1
 have hW1':((w.alloc (.cells #[.int .i64 g.a,.int .i64 g.b,.int .i64 g.c,.int .i64 g.d,.slice AU nU cU,.slice AL nL cL] 29)).alloc (.cells #[.int .i64 u,.slice AV nV cV] 120))=W1:=hW1
 have R2:=hide r0
 have R3:=hide r1
 have HB:=hide hb1
 have hsz0:=hb1.size
 have HU:=hide (hu.under hb1 hB)
 have HL:=hide (h.under hb1 hB)
 have HF:=hide hF
 have HFU:=hide hup
 have HV:=hide (hv.under hb1 hBV)
 obtain ⟨EL,hEL⟩:∃EL,entB up u=EL:=⟨_,rfl⟩
 have HEL:=hide hEL
 have hel:EL.length≤17:=by rw [←hEL];exact entB_lenX hup.2 u
 have hnl:(namesL ls vl).length≤16000:=by have h1:(namesL ls vl).length≤16*vl.length:=Nat.le_trans (List.length_filter_le _ _) (Nat.le_trans (sortS_length _) (allN_len hF vl));have h2:=hv.1;omega
 have HAV:=hide (show allV up ls (u,vl)=namesL ls vl++EL.map EntV.name from by unfold allV;rw [←hEL])
 have q3_1:W1.cell? ⟨w.heap.size+1,1,none⟩=some (.slice AV nV cV):=R3.out.cell 1
 have q2_4:W1.cell? ⟨w.heap.size,4,none⟩=some (.slice AU nU cU):=R2.out.cell 4
 have q3_0:W1.cell? ⟨w.heap.size+1,0,none⟩=some (.int .i64 u):=R3.out.cell 0
 unfold stkC viwC
 clear r0 r1 hb1 hW1 hu h hF hup hv hEL
 go_enter Tryz.func100,Tryz.ntmps100
 go_wp2_with (first|(refine wpList_loadW rfl 29 (.tmp 2) rfl 6 stk_agg stk_size (w.heap.size) 29 rfl (stkC g (.slice AU nU cU) (.slice AL nL cL)) R2.out rfl ?_)|(go_at_call 122;refine (Names_o W1 (und_up HL.out (by omega)) (und_up HV.out (by omega)) HF.out hnV).mono ?_;rintro e1 wN ⟨A5,n5,c5,rfl,h5,hbel⟩;clear q3_1 q2_4 q3_0;replace HB:=hide (HB.out.trans (hbel.mono HB.out.size));replace R2:=hide (R2.out.on hbel);replace R3:=hide (R3.out.on hbel);replace HU:=hide (HU.out.under hbel (by omega));replace HL:=hide (HL.out.under hbel (by omega));replace HV:=hide (HV.out.under hbel (by omega));have hsz2:=hbel.size;have q3_1:wN.cell? ⟨w.heap.size+1,1,none⟩=some (.slice AV nV cV):=R3.out.cell 1;have q2_4:wN.cell? ⟨w.heap.size,4,none⟩=some (.slice AU nU cU):=R2.out.cell 4;have q3_0:wN.cell? ⟨w.heap.size+1,0,none⟩=some (.int .i64 u):=R3.out.cell 0;have HO5:=hide h5;clear h5;clear hbel)|(go_at_call 46;refine (Entries_e HEL.out (B:=B) wN HU.out (by omega) (by have:=HFU.out.1;omega)).mono ?_;rintro e3 wC ⟨C1,m,d,rfl,hmd,hE,hbel⟩;clear q3_1 q2_4 q3_0;replace HB:=hide (HB.out.trans (hbel.mono HB.out.size));replace R2:=hide (R2.out.on hbel);replace R3:=hide (R3.out.on hbel);replace HU:=hide (HU.out.under hbel (by omega));replace HL:=hide (HL.out.under hbel (by omega));replace HV:=hide (HV.out.under hbel (by omega));replace HO5:=hide (HO5.out.below hbel);have hsz4:=hbel.size;have q3_1:wC.cell? ⟨w.heap.size+1,1,none⟩=some (.slice AV nV cV):=R3.out.cell 1;have q2_4:wC.cell? ⟨w.heap.size,4,none⟩=some (.slice AU nU cU):=R2.out.cell 4;have q3_0:wC.cell? ⟨w.heap.size+1,0,none⟩=some (.int .i64 u):=R3.out.cell 0;have HE:=hide hE;clear hE;clear hbel))
 have hn5:n5≤16000:=by rw [←HO5.out.rd.len];exact hnl
 have HEM:=hide HE.out.1
 have hm16:m≤17:=by have:=HEM.out;omega
 have hWc:W1.heap.size≤wC.heap.size:=by omega
 have hW1w:w.heap.size≤W1.heap.size:=hsz0
 clear hW1' q3_1 q2_4 q3_0 hnl
 go_loopw [5,20] (fun v5 v20 wr=>∃(i n6:Nat) (A6:Option Addr) (c6:Nat),i≤m∧v20=.int .i64 i∧v5=.slice A6 n6 c6∧n6≤n5+i∧Ow st wr W1.heap.size 9 A6 n6 c6 (namesL ls vl++(EL.take i).map EntV.name)∧Below W1.heap.size wC wr) (fun _ v20 _=>m - (intOf v20).toNat)
 case atStart=>exact ⟨0,n5,A5,c5,by omega,rfl,rfl,by omega,by simpa using HO5.out,Below.refl _ _⟩
 case round =>
  obtain ⟨i,n6,A6,c6,hi,rfl,rfl,hn6,ho6,hbr⟩:=hrel
  have HO6:=hide ho6
  have hbsz:=hbr.size
  have HBR:=hide hbr
  clear ho6 hbr
  by_cases hlt2:i < m
  ·obtain ⟨e,he⟩:∃e,EL[i]?=some e:=⟨_,List.getElem?_eq_getElem (by have:=HEM.out;omega)⟩
   obtain ⟨bE,oE,rfl,hbE,hcE⟩:=ent_get ((HE.out.mono (fun b hb=>HBR.out.block b (Nat.lt_of_lt_of_le hb (by omega))) (fun _ h=>h)):RdE entEn wr (Under B) C1 m EL) he
   have HCE:=hide hcE
   have HZE:=hide (RowL.new wr 31 [.int .i64 0,.int .i64 0,.string ⟨#[]⟩])
   have HNS:=hide (names_snoc he (namesL ls vl))
   have him:(i:Int) < (m:Int):=by omega
   clear he hcE
   go_wp2_with (first|(refine wpList_loadX rfl 31 (.tmp 22) rfl 3 entw_agg entw_size bE (oE+i*3) rfl (cellsE e) HCE.out rfl ?_)|(refine wpList_storeW rfl 31 (.tmp 7) (.tmp 23) rfl 3 entw_size wr.heap.size 31 rfl [.int .i64 0,.int .i64 0,.string ⟨#[]⟩] (cellsE e) rfl HZE.out rfl rfl (cellsE_one e) ?_;intro w8 hr8 hg8 hs8;have hb8:=below_stored' hg8;have qn:w8.cell? ⟨wr.heap.size,2,none⟩=some (.string ⟨e.name.toArray⟩):=hr8.cell 2;have HB8:=hide hb8;have hs8l:=hb8.size;clear hr8 hg8 hs8 hb8)|(at_builtin;refine wpList_append_Rd (f:=st) _ rfl (.tmp 24) (.tmp 27) 129 rfl W1.heap.size 9 _ 16 Tryz.underlying129 info_st rfl (fun _=>rfl) A6 n6 c6 _ rfl ((HO6.out.below HB8.out).below (below_new (below_self w8) _)) _ _ 1 1 [e.name] rfl (Rd.one _ _ rfl) (n6+1) rfl (by omega) (by omega) (by simp;omega) ?_;intro A7 c7 w9 ho9 hb9;have HO9:=hide ho9;have hs9:=hb9.size;have HB9:=hide ((HBR.out.trans ((HB8.out.mono (by omega)).alloc (by omega) _)).trans hb9);clear ho9 hb9))
   go_roundw
   case rel=>exact ⟨i+1,n6+1,A7,c7,by omega,by go_num,rfl,by omega,by rw [HNS.out];exact HO9.out,HB9.out⟩
   case measure=>simp [intOf];omega
  ·obtain rfl:m=i:=by omega
   have ho:Ow st wr W1.heap.size 9 A6 n6 c6 (allV up ls (u,vl)):=by
    have:=HO6.out
    rw [List.take_of_length_le (l:=EL) (by have:=HEM.out;omega)] at this
    rw [HAV.out];exact this
   have HO:=hide ho
   have hna:(allV up ls (u,vl)).length≤20000:=by rw [ho.rd.len];omega
   have hk1:∀b,b < W1.heap.size→wr.heap[b]?=wC.heap[b]?:=fun b hb=>HBR.out.block b hb
   replace HB:=hide (HB.out.trans (HBR.out.mono hW1w))
   replace R2:=hide (show RowL wr w.heap.size _ _ from (hk1 _ (by omega)).trans R2.out)
   replace R3:=hide (show RowL wr (w.heap.size+1) _ _ from (hk1 _ (by omega)).trans R3.out)
   replace HU:=hide (HU.out.mono (fun b hb=>hk1 b (Nat.lt_of_lt_of_le hb (by omega))) (fun _ h=>h):RdE nodEn wr (Under B) AU nU up)
   replace HL:=hide (HL.out.mono (fun b hb=>hk1 b (Nat.lt_of_lt_of_le hb (by omega))) (fun _ h=>h):RdE layEn wr (Under B) AL nL ls)
   replace HV:=hide (HV.out.mono (fun b hb=>hk1 b (Nat.lt_of_lt_of_le hb (by omega))) (fun _ h=>h):RdE prEn wr (Under BV) AV nV vl)
   clear ho hk1 HE
   go_wp2_with (first|(refine wpList_loadW rfl 29 (.tmp 2) rfl 6 stk_agg stk_size (w.heap.size) 29 rfl [.int .i64 g.a,.int .i64 g.b,.int .i64 g.c,.int .i64 g.d,.slice AU nU cU,.slice AL nL cL] R2.out rfl ?_)|(refine wpList_loadW rfl 120 (.tmp 3) rfl 2 viw_agg viw_size (w.heap.size+1) 120 rfl [.int .i64 u,.slice AV nV cV] R3.out rfl ?_)|(refine wpList_storeW rfl 187 (.tmp 8) (.tmp 32) rfl 8 vwd_size (wr.heap.size) 187 rfl (vwdC ⟨0,0,0,0⟩ (.slice none 0 0) (.slice none 0 0) 0 (.slice none 0 0)) (vwdC g (.slice AU nU cU) (.slice AL nL cL) u (.slice AV nV cV)) rfl (RowL.new wr 187 (vwdC ⟨0,0,0,0⟩ (.slice none 0 0) (.slice none 0 0) 0 (.slice none 0 0))) rfl rfl (vwdC_one _ _ _ _ _ _ _ _ _ _ _) ?_;intro wS51 hr51 hg51 hs51;have hzb:=below_stored' hg51;replace HB:=hide (HB.out.trans (hzb.mono HB.out.size));replace R2:=hide (R2.out.on hzb);replace R3:=hide (R3.out.on hzb);replace HU:=hide (HU.out.under hzb (by omega));replace HL:=hide (HL.out.under hzb (by omega));replace HV:=hide (HV.out.under hzb (by omega));replace HO:=hide (HO.out.below hzb);have hsz52:=hzb.size;have RD:=hide hr51;have hlt51:=hr51.lt;clear hzb hr51;clear hg51 hs51))
   have HD:=hide (show CtxV g AU AL AV nU cU nL cL nV cV w.heap.size (wr.heap.size) u up ls vl wS51 from ⟨RD.out,HU.out.mono (fun _ _=>rfl) (fun b hb=>Nat.lt_of_lt_of_le hb hB),HL.out.mono (fun _ _=>rfl) (fun b hb=>Nat.lt_of_lt_of_le hb hB),HV.out.mono (fun _ _=>rfl) (fun b hb=>Nat.lt_of_lt_of_le hb hBV),by omega⟩)
   refine (NSort_any wS51 HO.out.rd (by rw [←HO.out.rd.len];omega)).mono ?_
   rintro ez w3 ⟨A3,c3,rfl,ho3,hb3⟩
   have HO3:=hide ho3
   have HB3:=hide hb3
   have hs3:=hb3.size
   have hsb:(sortS (allV up ls (u,vl))).length≤100000:=Nat.le_trans (sortS_length _) (by omega)
   have hgd:=RD.out.lt
   clear hb3 ho3
   go_wp2_with fail
   refine (DelVO_any (p:=hidV up ls (u,vl)) (B0:=wS51.heap.size) (base:=wS51.heap.size) w3 HO3.out hsb (fun W nm r hr hk hs=>HidV_any hr W (HD.out.kept (B0:=wS51.heap.size) (fun b hb=>(hk b hb).trans (HB3.out.block b hb)) hgd (by omega) (by omega)) HF.out HFU.out hnV) (Nat.le_refl _) (by omega)).mono ?_
   rintro ez w4 ⟨A4,c4,n4,rfl,hr4,hb4⟩
   have HR4:=hide hr4
   have HB4:=hide (HB.out.trans ((HB3.out.trans hb4).mono (by omega)))
   clear hr4 hb4
   go_wp2_with fail
   go_ret
   exact ⟨A4,n4,c4,rfl,HR4.out.rebase (by omega),HB4.out⟩
end Go.Proofs.YtpndfahgflgocaaGreatDoor

namespace Go.Proofs.YtpndfahgflgocaaGreatDoor
open Go.RowKit Go.Shelf Plain

theorem hcell {w w':World} {b o:Nat} {cs:List Value} (h:∀k x,cs[k]?=some x→w.cell? ⟨b,o+k,none⟩=some x) {B:Nat} (hb:Below B w w') (hlt:b < B):∀k x,cs[k]?=some x→w'.cell? ⟨b,o+k,none⟩=some x:=fun k x hx=>(hb.cell (p:=⟨b,o+k,none⟩) hlt).trans (h k x hx)
end Go.Proofs.YtpndfahgflgocaaGreatDoor

namespace Go.Proofs.YtpndfahgflgocaaGreatDoor
open Go.RowKit Go.Shelf Plain

def TreeF (w:World) (ws:List WayV) (vs:List ViewV) (e:Ending) (w':World):Prop:=∃A c A' c',e=.returned (.tuple #[.slice A ws.length c,.slice A' vs.length c'])∧RdE wayEn w' (fun b=>w.heap.size≤b∧b < w'.heap.size) A ws.length ws∧RdE viewEn w' (Under w'.heap.size) A' vs.length vs∧Below w.heap.size w w'
end Go.Proofs.YtpndfahgflgocaaGreatDoor

