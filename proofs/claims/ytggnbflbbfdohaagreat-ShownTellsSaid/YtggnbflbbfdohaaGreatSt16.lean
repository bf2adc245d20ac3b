import Derived.Test.YtggnbflbbfdohaaGreatSt7
import Derived.Test.YtggnbflbbfdohaaGreatSt8
import Derived.BigQuiet
import Derived.Deep.QuietTactic
import Derived.Test.YtggnbflbbfdohaaGreatSt15
import Derived.Test.YtggnbflbbfdohaaGreatSt4

namespace Go.Proofs.YtggnbflbbfdohaaGreat
open Go.RowKit Plain
theorem info_st:(Tryz.prog.info? 9).map (fun i=>(i.zero,i.size,i.bytes))=some (some (.string ⟨#[]⟩),1,16):=by kernel_rfl
theorem st_one (l:List UInt8):(st l).oneCell'=true:=rfl

set_option maxHeartbeats 1600000 in
theorem RSort_any {A:Option Addr} {m c:Nat} {l:List (List UInt8)} (w:World) (ha:Rd st w w.heap.size A m l) (hm:m≤1000000) :
  Calls Tryz.prog 79 #[.slice A m c] w (ORet st w 9 (sortS l).length (sortS l)):=by
 have HA:=hide ha;clear ha
 go_enter Tryz.func79,Tryz.ntmps79
 go_wp2_with fail
 go_loopw [3,4] (fun v i wr=>∃(k p:Nat) (o:List (List UInt8)),k≤m∧i=.int .i64 k∧o=sortS (l.take k)∧p≤k∧(∃A c,v=.slice A p c∧Ow st wr w.heap.size 9 A p c o)∧Below w.heap.size w wr) (fun _ i _=>m - (intOf i).toNat)
 case atStart=>exact ⟨0,0,[],Nat.zero_le _,rfl,rfl,Nat.le_refl _,⟨_,_,rfl,Ow.empty st w _⟩,below_new (below_self w) _⟩
 case round =>
  obtain ⟨i,p,o,hi,rfl,ho,hp,⟨A1,c1,rfl,hown⟩,hbel⟩:=hrel;have HOE:=hide ho;have HO:=hide hown;have HB:=hide hbel;have HA1:=hide (HA.out.on hbel);clear ho hown hbel
  by_cases hlt:i < m
  ·obtain ⟨ba,oa,rfl,hba,hca0⟩:=HA.out.2 (by omega)
   have hca:∀i x,l[i]?=some x→wr.cell? ⟨ba,oa+i,none⟩=some (st x):=fun i x h=>(HB.out.cell hba).trans (hca0 i x h);have hxw:=hca0 i _ (List.getElem?_eq_getElem (show i < l.length by rw [HA.out.len];exact hlt));clear hca0
   have hil:i < l.length:=by rw [HA.out.len];exact hlt
   have hx:=hca i l[i] (List.getElem?_eq_getElem hil);clear hca;obtain ⟨x,hxe⟩:∃x,x=l[i]:=⟨_,rfl⟩;rw [←hxe] at hx hxw;have HXW:=hide hxw;clear hxw
   have hs:sortS (l.take (i+1))=insS x o:=by rw [List.take_succ_eq_append_getElem hil,sortS_snoc,←HOE.out,hxe]
   have HS:=hide hs;clear hs hxe hil;unfold st at hx
   go_wp2_with fail
   go_loopw [5] (fun kv wr2=>∃k q:Nat,k≤p∧kv=.int .i64 k∧(∀j (hj:j < k),lessS (o.getD j []) x=true)∧wr2=wr.drewN q) (fun kv _=>p - (intOf kv).toNat)
   case atStart=>exact ⟨0,0,Nat.zero_le _,rfl,fun j hj=>absurd hj (by omega),rfl⟩
   case round =>
    obtain ⟨k,q,hk,rfl,hless,rfl⟩:=hrel;have HL:=hide hless;clear hless
    by_cases hkp:k < p
    ·obtain ⟨g,rfl,hg,hgl,hcg,hfz⟩:=HO.out.at_ (by omega)
     have hol:=HO.out.len;have hy:=hcg k (o.getD k []) (by simp only [List.getD];rw [List.getElem?_eq_getElem (by omega)];rfl);clear hcg hfz;obtain ⟨y,hye⟩:∃y,y=o.getD k []:=⟨_,rfl⟩;rw [←hye] at hy;unfold st at hy;have HYE:=hide hye;have HOL:=hide hol;clear hye hol
     cases hyx:Op.bytesLess y x with
     | true =>
      have HYX:=hide hyx
      go_wp2
      go_quiet (fail)
      clear hyx
      go_wp2
      go_roundw
      case rel=>exact ⟨k+1,_,by omega,by go_num,fun j hj=>by
       by_cases hjk:j < k
       ·exact HL.out j hjk
       ·obtain rfl:j=k:=by omega
        rw [←HYE.out];exact HYX.out,rfl⟩
      case measure=>simp [intOf];omega
     | false =>
      have HYX:=hide hyx
      go_wp2
      go_quiet (fail)
      clear hyx
      go_wp2
      by_cases hyq:y=x
      ·have hpos:posS x o=k:=posS_of (by have:=HO.out.len;omega) (fun j hj=>HL.out j hj) (fun _=>by rw [←HYE.out];exact HYX.out)
       have hins:insS x o=o:=by
        unfold insS;rw [hpos,if_pos];rw [←hyq,HYE.out];simp only [List.getD];rw [List.getElem?_eq_getElem (by have:=HO.out.len;omega)]
        rfl
       have HINS:=hide hins
       have hbq:(y==x)=true:=by simp [hyq]
       clear hpos hins hyq
       go_quiet (fail)
       clear hbq
       go_wp2
       go_roundw
       case rel=>exact ⟨i+1,p,o,by omega,by go_num,by rw [HS.out,HINS.out],by omega,⟨_,_,rfl,by repeat (first|exact HO.out|refine Ow.drewN ?_ _)⟩,by repeat (first|exact HB.out|refine below_drewN ?_ _)⟩
       case measure=>simp [intOf];omega
      ·have NE:=hide hyq
       have hbq:(y==x)=false:=by simp [hyq]
       clear hyq
       go_quiet (fail)
       clear hbq
       go_wp2_with (at_builtin;refine wpList_append_Rd _ rfl (.tmp 46) (.tmp 47) 41 rfl w.heap.size 9 _ 16 Tryz.underlying41 info_st rfl st_one _ p _ o rfl (by repeat (first|exact HO.out|refine Ow.drewN ?_ _|refine Ow.alloc ?_ _)) _ _ 1 1 _ rfl (Rd.one _ _ rfl) (p+1) rfl (by omega) (by omega) (by have:=HB.out.size;simp;omega) ?_;intro A2 c2 w1 hown1 hbel1;have HO1:=hide hown1;have HB1:=hide (Below.trans (show Below w.heap.size w _ by repeat (first|exact HB.out|refine below_drewN ?_ _|(refine Below.alloc ?_ (by have:=HB.out.size;simp;omega) _))) hbel1);clear hown1 hbel1)
       have hpos:posS x o=k:=posS_of (by have:=HO.out.len;omega) (fun j hj=>HL.out j hj) (fun _=>by rw [←HYE.out];exact HYX.out)
       have hnot:o[k]?≠some x:=by
        intro e
        apply NE.out
        rw [HYE.out];simp [List.getD,e]
       have hins:insS x o=o.take k++x::o.drop k:=by unfold insS;rw [hpos,if_neg hnot]
       have HINS:=hide hins;clear hpos hnot hins;have hgl:=HO.out.len;have HGL:=hide hgl;clear hgl
       go_loopw [6] (fun jv wr3=>∃j:Nat,k≤j∧j≤p∧jv=.int .i64 j∧Ow st wr3 w.heap.size 9 A2 (p+1) c2 (gapS o j)∧Below w.heap.size w wr3) (fun jv _=>(intOf jv).toNat)
       case atStart=>exact ⟨p,by omega,Nat.le_refl _,by go_num,by have e:=gapS_end o;rw [HGL.out] at e;rw [e];exact HO1.out,HB1.out⟩
       case round =>
        obtain ⟨j,hj1,hj2,rfl,hown2,hbel2⟩:=hrel;have HO2:=hide hown2;have HB2:=hide hbel2;obtain ⟨g2,rfl,hg2,hgl2,hcg2,hfz2⟩:=hown2.at_ (by omega)
        by_cases hjk:k < j
        ·have hgj:(gapS o j)[j - 1]?=some (o.getD (j - 1) []):=by
          rw [gapS_get (by omega) (by rw [HGL.out];omega)];simp only [List.getD];rw [List.getElem?_eq_getElem (by rw [HGL.out];omega)]
          rfl
         have hz:=hcg2 (j - 1) _ hgj;obtain ⟨u,hu⟩:∃u,(gapS o j)[j]?=some u:=⟨_,List.getElem?_eq_getElem (by rw [gapS_length (by rw [HGL.out];omega),HGL.out];omega)⟩;have hzz:=hcg2 j _ hu;have hf:=hfz2 j;have hst:=hown2.set_ (p:=j) (u:=st (o.getD (j - 1) [])) (y:=o.getD (j - 1) []) rfl;have hbs:=hbel2.setCell (p:=⟨g2,j,none⟩) hg2 (st (o.getD (j - 1) []));obtain ⟨j',rfl⟩:∃j',j=j'+1:=⟨j - 1,by omega⟩;simp only [Nat.add_sub_cancel] at hz hst hbs
         have hgo:o.getD j' []=o[j']'(by rw [HGL.out];omega):=by
          simp only [List.getD];rw [List.getElem?_eq_getElem (by rw [HGL.out];omega)]
          rfl
         rw [hgo,gapS_step] at hst;rw [←hgo] at hst;obtain ⟨z,hze⟩:∃z,z=o.getD j' []:=⟨_,rfl⟩;rw [←hze] at hz hst hbs;have HST:=hide hst;have HBS:=hide hbs;clear hown2 hbel2 hcg2 hfz2 hgj hu hst hbs hgo hze;unfold st at hz hzz
         go_wp2
         go_roundw
         case rel=>exact ⟨j',by omega,by omega,by go_num,HST.out,HBS.out⟩
         case measure=>(simp [intOf])
        ·obtain rfl:k=j:=by omega
         have hx2:=(HB2.out.cell hba).trans HXW.out;obtain ⟨u,hu⟩:∃u,(gapS o k)[k]?=some u:=⟨_,List.getElem?_eq_getElem (by rw [gapS_length (by rw [HGL.out];omega),HGL.out];omega)⟩;have hzz:=hcg2 k _ hu;have hf:=hfz2 k;have hst:=hown2.set_ (p:=k) (u:=st x) (y:=x) rfl;have hbs:=hbel2.setCell (p:=⟨g2,k,none⟩) hg2 (st x);rw [gapS_set (by rw [HGL.out];omega)] at hst;have HST:=hide hst;have HBS:=hide hbs;clear hown2 hbel2 hcg2 hfz2 hu hst hbs;unfold st at hx2 hzz
         go_wp2
         go_roundw
         case rel=>exact ⟨i+1,p+1,_,by omega,by go_num,HS.out.symm,by omega,⟨_,_,rfl,by rw [HINS.out];exact HST.out⟩,HBS.out⟩
         case measure=>simp [intOf];omega
    ·obtain rfl:k=p:=by omega
     go_wp2
     go_quiet (fail)
     go_wp2
     go_quiet (fail)
     go_wp2_with (at_builtin;refine wpList_append_Rd _ rfl (.tmp 46) (.tmp 47) 41 rfl w.heap.size 9 _ 16 Tryz.underlying41 info_st rfl st_one _ k _ o rfl (by repeat (first|exact HO.out|refine Ow.drewN ?_ _|refine Ow.alloc ?_ _)) _ _ 1 1 _ rfl (Rd.one _ _ rfl) (k+1) rfl (by omega) (by omega) (by have:=HB.out.size;simp;omega) ?_;intro A2 c2 w1 hown1 hbel1;have HO1:=hide hown1;have HB1:=hide (Below.trans (show Below w.heap.size w _ by repeat (first|exact HB.out|refine below_drewN ?_ _|(refine Below.alloc ?_ (by have:=HB.out.size;simp;omega) _))) hbel1);clear hown1 hbel1)
     have hpos:posS x o=k:=posS_of (by have:=HO.out.len;omega) (fun j hj=>HL.out j hj) (fun h=>by have:=HO.out.len;omega)
     have hnot:o[k]?≠some x:=by rw [List.getElem?_eq_none (by have:=HO.out.len;omega)];simp
     have hins:insS x o=o.take k++x::o.drop k:=by unfold insS;rw [hpos,if_neg hnot]
     have HINS:=hide hins;clear hpos hnot hins;have hgl:=HO.out.len;have HGL:=hide hgl;clear hgl
     go_loopw [6] (fun jv wr3=>∃j:Nat,k≤j∧j≤k∧jv=.int .i64 j∧Ow st wr3 w.heap.size 9 A2 (k+1) c2 (gapS o j)∧Below w.heap.size w wr3) (fun jv _=>(intOf jv).toNat)
     case atStart=>exact ⟨k,by omega,Nat.le_refl _,by go_num,by have e:=gapS_end o;rw [HGL.out] at e;rw [e];exact HO1.out,HB1.out⟩
     case round =>
      obtain ⟨j,hj1,hj2,rfl,hown2,hbel2⟩:=hrel;have HO2:=hide hown2;have HB2:=hide hbel2;obtain ⟨g2,rfl,hg2,hgl2,hcg2,hfz2⟩:=hown2.at_ (by omega)
      by_cases hjk:k < j
      ·exact absurd hjk (by omega)
      ·obtain rfl:k=j:=by omega
       have hx2:=(HB2.out.cell hba).trans HXW.out;obtain ⟨u,hu⟩:∃u,(gapS o k)[k]?=some u:=⟨_,List.getElem?_eq_getElem (by rw [gapS_length (by rw [HGL.out];omega),HGL.out];omega)⟩;have hzz:=hcg2 k _ hu;have hf:=hfz2 k;have hst:=hown2.set_ (p:=k) (u:=st x) (y:=x) rfl;have hbs:=hbel2.setCell (p:=⟨g2,k,none⟩) hg2 (st x);rw [gapS_set (by rw [HGL.out];omega)] at hst;have HST:=hide hst;have HBS:=hide hbs;clear hown2 hbel2 hcg2 hfz2 hu hst hbs;unfold st at hx2 hzz
       go_wp2
       go_roundw
       case rel=>exact ⟨i+1,k+1,_,by omega,by go_num,HS.out.symm,by omega,⟨_,_,rfl,by rw [HINS.out];exact HST.out⟩,HBS.out⟩
       case measure=>simp [intOf];omega
  ·obtain rfl:i=m:=by omega
   have hos:o=sortS l:=by rw [HOE.out,List.take_of_length_le (by rw [HA.out.len];exact Nat.le_refl _)]
   have hol:=HO.out.len;have HOS:=hide hos;have HOL:=hide hol;clear hos hol
   go_wp2
   go_ret
   rw [←HOS.out,HOL.out];exact HO.out.ret HB.out
end Go.Proofs.YtggnbflbbfdohaaGreat

namespace Go.Proofs.YtggnbflbbfdohaaGreat
open Go.RowKit Go.Shelf Plain

theorem Entries_e {A:Option Addr} {n c:Nat} {ns:List NodV} {i:Int} {B:Nat} {l:List EntV} (hl:entB ns i=l) (w:World) (h:RdE nodEn w (Under B) A n ns) (hB:B≤w.heap.size) (hm:ns.length≤100000) :
  Calls Tryz.prog 104 #[.agg #[.slice A n c],.int .i64 i] w (EntsRet w B l):=by rw [←hl];exact Entries_any w h hB hm
def allN (ls:List (List NodV)) (l:List (Int×Int)):List (List UInt8):=l.flatMap (fun p=>(entL ls p).map EntV.name)
theorem allN_succ {ls:List (List NodV)} {l:List (Int×Int)} {j:Nat} {p:Int×Int} (h:l[j]?=some p):allN ls (l.take (j+1))=allN ls (l.take j)++(entL ls p).map EntV.name:=by
 unfold allN;rw [List.take_add_one,h,List.flatMap_append];simp
theorem allN_len {ls:List (List NodV)} (hF:FewL ls) (l:List (Int×Int)):(allN ls l).length≤16*l.length:=by
 unfold allN
 induction l with
 | nil=>simp
 | cons p r ih =>
  rw [List.flatMap_cons,List.length_append,List.length_map,List.length_cons]
  have:=entL_len hF p
  omega
def namesL (ls:List (List NodV)) (l:List (Int×Int)):List (List UInt8):=(sortS (allN ls l)).filter (fun x=>!hidS ls l x)
theorem sort_filter (q:List UInt8→Bool) (l:List (List UInt8)):(sortS l).filter q=sortS (l.filter q):=by
 refine sortS_unique ?_ (fun y=>?_)
 ·exact List.Pairwise.filter q (sortS_rising l).1
 ·rw [List.mem_filter,List.mem_filter,(sortS_rising l).2]
theorem names_snoc {l:List EntV} {i:Nat} {e:EntV} (h:l[i]?=some e) (a:List (List UInt8)):a++(l.take (i+1)).map EntV.name=(a++(l.take i).map EntV.name)++[e.name]:=by
 rw [List.take_add_one,h];simp
end Go.Proofs.YtggnbflbbfdohaaGreat

namespace Go.Proofs.YtggnbflbbfdohaaGreat
open Go.RowKit Go.Shelf Plain

def keepS (ls:List (List NodV)) (l:List (Int×Int)) (x:List UInt8):Bool:=!hidS ls l x
theorem namesL_ref (ls:List (List NodV)) (l:List (Int×Int)):namesL ls l=sortS ((allN ls l).filter (keepS ls l)):=sort_filter _ _
theorem keep_snoc {q:List UInt8→Bool} {l:List EntV} {i:Nat} {e:EntV} (h:l[i]?=some e) (a:List (List UInt8)) {b:Bool} (hb:q e.name=b):(a++(l.take (i+1)).map EntV.name).filter q=if b=true then (a++(l.take i).map EntV.name).filter q++[e.name] else (a++(l.take i).map EntV.name).filter q:=by
 rw [names_snoc h,List.filter_append]
 cases b <;> simp [hb]
theorem run_append_Rd' {α : Type} {f : α → Value} {P : Program} (w : World) (base : Nat) (t ty e : TypeId) (z : Value) (k : Nat) (ht : P.underlying t = some (.slice e)) (hinfo : (P.info? e).map (fun i => (i.zero, i.size, i.bytes)) = some (some z, 1, k)) (hzs : z.cells.size = 1)
  (h1:∀x,(f x).oneCell'=true)
  (v:Value) (n:Nat) (l0:List α) (hown:w.ownsRow base e 1 v n (l0.map f)) (B:Nat) (A:Option Addr) (m c:Nat) (l1:List α) (hb:Rd f w B A m l1)
  (hbytes:(n+m)*k≤140737488355328) (hnm:n+m≤140737488355328) (hbase:base≤w.heap.size) :
  ∃v' w',(Builtin.append_ #[t,t] ty #[v,.slice A m c]).run P w=.ok v' w'∧w'.ownsRow base e 1 v' (n+m) ((l0++l1).map f)∧Below base w w'∧w.grownBy w' v.ownBlock:=by
 obtain ⟨i,hi,hz,hsz,hby⟩:=info_parts hinfo;rw [List.map_append]
 cases A with
 | none =>
  have hm:m=0:=by
   rcases Nat.eq_zero_or_pos m with h0|h0
   ·exact h0
   ·obtain ⟨_,_,h,_⟩:=hb.2 h0;cases h
  subst hm;obtain rfl:l1=[]:=List.eq_nil_of_length_eq_zero hb.1;exact ⟨v,w,run_append_nil0 w base t ty e i 1 ht hi v n _ hown c,by simpa using hown,Below.refl _ _,World.grownBy.refl _ _⟩
 | some ad =>
  have hcells:∀j u,(l1.map f)[j]?=some u→w.cell? (ad.add j)=some u:=by
   intro j u hu;rw [List.getElem?_map,Option.map_eq_some_iff] at hu;obtain ⟨x,hx,rfl⟩:=hu;have hj:j < l1.length:=(List.getElem?_eq_some_iff.1 hx).1;obtain ⟨b,o,e,_,hc⟩:=hb.2 (by have:=hb.1;omega)
   injection e with e
   subst e;rw [←hc j x hx]
   congr 1
   unfold Addr.add
   split
   ·rename_i h0;subst h0;rfl
   ·rfl
  obtain ⟨v', w', hr, h2, h3, _⟩ := run_append_own (P := P) w base t ty e i z 1 k ht hi hz hsz hby hzs (by omega) v n _ hown ad m c (l1.map f) (by rw [List.length_map]; have := hb.1; omega) hcells (map_one h1 _)
   (by simp only [maxLen];omega) hbytes hbase
  exact ⟨v',w',hr,h2,Below.of_grown_own hown h3 hbase,h3⟩
theorem wpList_append_Rd' {α : Type} {f : α → Value} {P : Program} (w : World) {ops : Array Oper} {rest : List Oper} {o : Oper} {a : Act} {Q : Exit → Act → World → Prop} (hgd : o.guard = none) (s x : Operand) (t : TypeId)
  (ho:o.op=.call {callee:=.builtin .append,args:=#[s,x],argTypes:=#[t,t]})
  (base:Nat) (e:TypeId) (z:Value) (k:Nat) (ht:P.underlying t=some (.slice e)) (hinfo:(P.info? e).map (fun i=>(i.zero,i.size,i.bytes))=some (some z,1,k)) (hzs:z.cells.size=1)
  (h1:∀x,(f x).oneCell'=true)
  (A0:Option Addr) (n c0:Nat) (l0:List α) (hs:a.eval s=.slice A0 n c0) (hown:Ow f w base e A0 n c0 l0) (B:Nat) (A:Option Addr) (m c:Nat) (l1:List α) (hx:a.eval x=.slice A m c) (hb:Rd f w B A m l1)
  (N:Nat) (hN:n+m=N) (hbytes:N*k≤140737488355328) (hnm:N≤140737488355328) (hbase:base≤w.heap.size)
  (h:∀A' c' w',Ow f w' base e A' N c' (l0++l1)→Below base w w'→w.grownBy w' (Value.slice A0 n c0).ownBlock→wpList P ops Q rest (a.put o.dst (.slice A' N c')) w'):wpList P ops Q (o::rest) a w:=by
 subst hN;refine wpList_plain hgd fun K hK=>?_;obtain ⟨v',w',hr,h2,h3,h4⟩:=run_append_Rd' (P:=P) w base t o.type e z k ht hinfo hzs h1 _ n l0 hown B A m c l1 hb hbytes hnm hbase;unfold Oper.wp execOp;simp only [ho,resolve,invoke,builtin,Sem.run_bind,Sem.run_pure,Result.andThen_ok,List.map_toArray,List.map_cons,List.map_nil,hs,hx,hr];obtain ⟨A',c',rfl,h5⟩:=Ow.of h2;exact hK _ _ (h A' c' w' h5 h3 h4)
end Go.Proofs.YtggnbflbbfdohaaGreat

namespace Go.Proofs.YtggnbflbbfdohaaGreat
open Go.RowKit Go.Shelf Plain

def rootsL : List (List NodV) → Nat → List (Int × Int)
 | [],_=>[]
 | ns::r,j=>if (nodAt ns 1).k=1 then (if opq (nodAt ns 1)=true then [((j:Int)+1,1)] else ((j:Int)+1,1)::rootsL r (j+1)) else rootsL r (j+1)
theorem low_get {ls:List (List NodV)} {j:Nat} {ns:List NodV} {i:Int} (h:ls[j]?=some ns):lowAt ls ((j:Int)+1) i=nodAt ns i:=by
 have hj:=(List.getElem?_eq_some_iff.1 h).1;unfold lowAt;rw [if_pos ⟨by omega,by omega⟩,show ((j:Int)+1 - 1).toNat=j by omega,h]
 rfl
set_option maxRecDepth 100000 in
set_option maxHeartbeats 8000000 in
theorem Roots_f {g:GeoQ} {AU AL:Option Addr} {nU cU nL cL:Nat} {ls:List (List NodV)} (w:World) (h:RdE layEn w (Under w.heap.size) AL nL ls) (hF:FewL ls) :
  Calls Tryz.prog 102 #[.agg (stkC g (.slice AU nU cU) (.slice AL nL cL)).toArray] w (PlcsF w (rootsL ls 0)):=by
 have r0:=RowL.new w 29 (stkC g (.slice AU nU cU) (.slice AL nL cL))
 have hb1:=below_new (below_self w) (.cells (stkC g (.slice AU nU cU) (.slice AL nL cL)).toArray 29);obtain ⟨W1,hW1⟩:∃W1,w.alloc (.cells (stkC g (.slice AU nU cU) (.slice AL nL cL)).toArray 29)=W1:=⟨_,rfl⟩;rw [hW1] at r0 hb1;have hW1':w.alloc (.cells #[.int .i64 g.a,.int .i64 g.b,.int .i64 g.c,.int .i64 g.d,.slice AU nU cU,.slice AL nL cL] 29)=W1:=hW1
 have q5:W1.cell? ⟨w.heap.size,5,none⟩=some (.slice AL nL cL):=r0.cell 5
 have hm:ls.length≤100:=by have:=hF.1;omega
 have HM2:=hide (fun ns (hh:ns∈ls)=>(show ns.length≤1000 from Nat.le_trans (hF.2 ns hh).1 (by omega)));have R0:=hide r0;have HB1:=hide hb1;have hs1:=hb1.size;have HL:=hide (h.under hb1 (Nat.le_refl _))
 have hnL:nL≤3∧ls.length≤nL∧nL≤ls.length:=by have:=h.1;have:=hF.1;omega
 have HF:=hide hF;obtain ⟨R,hR⟩:∃R,rootsL ls 0=R:=⟨_,rfl⟩;rw [hR];have HR:=hide hR;have HO0:=hide (own_lit0 W1 31 2 (base:=W1.heap.size) rfl (Nat.le_refl _));have HW0:=hide (below_new (below_self W1) (.cells #[] 31));unfold stkC;clear r0 hb1 hW1 h hF hR
 go_enter Tryz.func102,Tryz.ntmps102
 go_wp2_with fail
 clear hW1' q5
 go_loopw [3,10] (fun v3 v10 wr=>∃(j:Nat) (acc:List (Int×Int)) (A:Option Addr) (c:Nat),j≤nL∧v10=.int .i64 j∧v3=.slice A acc.length c∧acc.length≤j∧wr.ownsRow W1.heap.size 31 2 (.slice A acc.length c) acc.length (flatR acc)∧Below W1.heap.size W1 wr∧acc++rootsL (ls.drop j) j=R) (fun v3 v10 _=>nL - (intOf v10).toNat)
 case atStart=>exact ⟨0,[],none,0,by omega,rfl,rfl,Nat.le_refl _,World.ownsRow_nil _ _ _ _,below_self _,by rw [List.drop_zero];exact HR.out⟩
 case round =>
  obtain ⟨j,acc,A,c,hj,rfl,rfl,hal,ho,hbr,hfin⟩:=hrel;have HO:=hide ho;have HBR:=hide hbr;have HFI:=hide hfin;have hbsz:=hbr.size;have R0r:=hide (R0.out.on hbr);clear ho hbr hfin
  by_cases hlt:j < nL
  ·obtain ⟨ns,hns⟩:∃ns,ls[j]?=some ns:=⟨_,List.getElem?_eq_getElem (by omega)⟩
   obtain ⟨N,hN⟩:∃N,nodAt ns 1=N:=⟨_,rfl⟩;have hLN:lowAt ls ((j:Int)+1) 1=N:=(low_get hns).trans hN;have hath:=(low_plain HF.out ((j:Int)+1) 1).2.2.1;rw [hLN] at hath;have HLN:=hide hLN;obtain ⟨bk,hbk⟩:∃bk,(N.k != 1)=bk:=⟨_,rfl⟩;obtain ⟨op,hop⟩:∃op,opq N=op:=⟨_,rfl⟩;have HMarked_b:=hide hop
   have e:=HFI.out
   have hjl:=(List.getElem?_eq_some_iff.1 hns).1;rw [List.drop_eq_getElem_cons hjl,(List.getElem?_eq_some_iff.1 hns).2] at e;unfold rootsL at e;rw [hN,hop] at e
   have HE:=hide (show (if bk=false then (if op=true then acc++[((j:Int)+1,1)] else (acc++[((j:Int)+1,1)])++rootsL (ls.drop (j+1)) (j+1)) else acc++rootsL (ls.drop (j+1)) (j+1))=R from by
    rw [←e,←hbk]
    by_cases hk:N.k=1 <;> cases op <;> simp [hk])
   have HZP:=hide (RowL.new wr 31 (prC (0,0)))
   have hjn:(j:Int) < (nL:Int):=by omega
   have hj3:(j:Int)+1≤(nL:Int):=by omega
   clear hns hN hLN hop e
   cases bk with
   | true =>
    go_wp2_with (first|(refine wpList_storeW rfl 31 (.tmp 5) (.tmp 15) rfl 2 plc_size wr.heap.size 31 rfl (prC (0,0)) (prC ((j:Int)+1,1)) rfl HZP.out rfl rfl (prC_one _) ?_;intro w6 hr6 hg6 hs6;have hb6:=below_stored' hg6;have R6:=hide hr6;have HB6:=hide hb6;have R06:=hide (R0r.out.on hb6);have hs6l:=hb6.size;clear hr6 hg6 hs6 hb6)|(refine wpList_loadW rfl 29 (.tmp 1) rfl 6 stk_agg stk_size w.heap.size 29 rfl (stkC g (.slice AU nU cU) (.slice AL nL cL)) R06.out rfl ?_)|(refine wpList_loadW rfl 31 (.tmp 5) rfl 2 plc_agg plc_size wr.heap.size 31 rfl (prC ((j:Int)+1,1)) R6.out rfl ?_)|(go_at_call 132;refine (NLower_e HLN.out w6 (HL.out.under (HBR.out.trans (HB6.out.mono hbsz)) hs1) (by omega) hm HM2.out).mono ?_;rintro ez w7 ⟨A1,n1,c1,C1,m1,d1,rfl,e2,e3,e4,e5,hb7⟩;have HB7:=hide (HB6.out.trans (hb7.mono hs6l));have hs7l:=hb7.size;have HZN:=hide (RowL.new w7 65 (nodC nod0 (.slice none 0 0) (.slice none 0 0)));have R67:=hide (R6.out.on hb7);clear e3 e5 hb7)|(refine wpList_storeW rfl 65 (.tmp 6) (.tmp 18) rfl 13 nod_size w7.heap.size 65 rfl (nodC nod0 (.slice none 0 0) (.slice none 0 0)) (nodC N (.slice A1 n1 c1) (.slice C1 m1 d1)) rfl HZN.out rfl rfl (nodC_one _ _ _ _ _ _ _) ?_;intro w9 hr9 hg9 hs9;have hb9:=below_stored' hg9;have qk:w9.cell? ⟨w7.heap.size,0,none⟩=some (.int .i64 N.k):=hr9.cell 0;have HR6:=hide hr9;have HR5:=hide (R67.out.on hb9);have HB9:=hide (HB7.out.trans (hb9.mono (by omega)));have hs9l:=HB9.out.size;clear hr9 hg9 hs9 hb9))
    go_roundw
    case rel=>exact ⟨j+1,acc,A,c,by omega,by go_num,rfl,by omega,ownsRow_below HO.out HB9.out,HBR.out.trans (HB9.out.mono hbsz),by have:=HE.out;simpa using this⟩
    case measure=>simp [intOf];omega
   | false =>
    have HLEN:=hide (show (acc++[((j:Int)+1,(1:Int))]).length=acc.length+1 by simp)
    go_wp2_with (first|(refine wpList_storeW rfl 31 (.tmp 5) (.tmp 15) rfl 2 plc_size wr.heap.size 31 rfl (prC (0,0)) (prC ((j:Int)+1,1)) rfl HZP.out rfl rfl (prC_one _) ?_;intro w6 hr6 hg6 hs6;have hb6:=below_stored' hg6;have R6:=hide hr6;have HB6:=hide hb6;have R06:=hide (R0r.out.on hb6);have hs6l:=hb6.size;clear hr6 hg6 hs6 hb6)|(refine wpList_loadW rfl 29 (.tmp 1) rfl 6 stk_agg stk_size w.heap.size 29 rfl (stkC g (.slice AU nU cU) (.slice AL nL cL)) R06.out rfl ?_)|(refine wpList_loadW rfl 31 (.tmp 5) rfl 2 plc_agg plc_size wr.heap.size 31 rfl (prC ((j:Int)+1,1)) R6.out rfl ?_)|(go_at_call 132;refine (NLower_e HLN.out w6 (HL.out.under (HBR.out.trans (HB6.out.mono hbsz)) hs1) (by omega) hm HM2.out).mono ?_;rintro ez w7 ⟨A1,n1,c1,C1,m1,d1,rfl,e2,e3,e4,e5,hb7⟩;have HB7:=hide (HB6.out.trans (hb7.mono hs6l));have hs7l:=hb7.size;have HZN:=hide (RowL.new w7 65 (nodC nod0 (.slice none 0 0) (.slice none 0 0)));have R67:=hide (R6.out.on hb7);clear e3 e5 hb7)|(refine wpList_storeW rfl 65 (.tmp 6) (.tmp 18) rfl 13 nod_size w7.heap.size 65 rfl (nodC nod0 (.slice none 0 0) (.slice none 0 0)) (nodC N (.slice A1 n1 c1) (.slice C1 m1 d1)) rfl HZN.out rfl rfl (nodC_one _ _ _ _ _ _ _) ?_;intro w9 hr9 hg9 hs9;have hb9:=below_stored' hg9;have qk:w9.cell? ⟨w7.heap.size,0,none⟩=some (.int .i64 N.k):=hr9.cell 0;have HR6:=hide hr9;have HR5:=hide (R67.out.on hb9);have HB9:=hide (HB7.out.trans (hb9.mono (by omega)));have hs9l:=HB9.out.size;clear hr9 hg9 hs9 hb9)|(refine wpList_loadW rfl 31 (.tmp 5) rfl 2 plc_agg plc_size wr.heap.size 31 rfl (prC ((j:Int)+1,1)) HR5.out rfl ?_)|(refine wpList_litW rfl 50 (.tmp 23) rfl (.agg (prC ((j:Int)+1,1)).toArray) _ rfl (lit_plc ((j:Int)+1,1) w9) ?_;refine wpList_plain rfl fun K2 hK2=>?_;go_loud (refine wp_appF w9 W1.heap.size _ rfl (.tmp 22) (.tmp 24) 50 31 rfl Tryz.underlying50 _ 2 16 plc_info rfl (by omega) (by omega) A acc.length c _ (prC ((j:Int)+1,1)) rfl (prC_one _) rfl (ownsRow_below HO.out HB9.out) rfl (by omega) (by omega) ?_);intro A5 c5 w10 ho10 hg10;refine hK2 _ _ ?_;clear hK2 K2;have HO10:=hide ho10;have hba:=below_new (below_self w9) (.cells (prC ((j:Int)+1,1)).toArray 31);have hoa:=ownsRow_below (ownsRow_below HO.out HB9.out) hba;have HR6b:=hide ((HR6.out.on hba).grown hg10 (row_apart hoa (HR6.out.on hba) (by decide)));have HB10:=hide (((HBR.out.trans (HB9.out.mono hbsz)).trans (hba.mono (by omega))).grown hg10 (by have:=hba.size;omega) (fun q hq=>(own_block hoa q hq).1));clear ho10 hg10 hba hoa)|(refine wpList_loadW rfl 65 (.tmp 6) rfl 13 nod_agg nod_size w7.heap.size 65 rfl (nodC N (.slice A1 n1 c1) (.slice C1 m1 d1)) HR6b.out rfl ?_))
    refine (Marked_b HMarked_b.out hath.1 hath.2 _).mono ?_
    rintro ez w11 ⟨rfl,hb11⟩
    have HO11:=hide (ownsRow_below HO10.out hb11);have HB11:=hide (HB10.out.trans (hb11.mono (by have:=HB10.out.size;omega)));clear hb11
    cases op with
    | false =>
     go_wp2_with fail
     go_roundw
     case rel=>exact ⟨j+1,acc++[((j:Int)+1,1)],A5,c5,by omega,by go_num,by rw [HLEN.out],by rw [HLEN.out];omega,by rw [HLEN.out,flatR_snoc];exact HO11.out,HB11.out,by have:=HE.out;simpa using this⟩
     case measure=>simp [intOf];omega
    | true =>
     have hE:R=acc++[((j:Int)+1,1)]:=by have:=HE.out.symm;simpa using this
     subst hE
     go_wp2_with fail
     rw [show acc.length+1=(acc++[((j:Int)+1,(1:Int))]).length from HLEN.out.symm]
     go_ret
     exact ⟨A5,c5,rfl,(pr_fresh (by rw [HLEN.out,flatR_snoc];exact HO11.out) rfl).mono (fun _ _=>rfl) (fun b hb=>⟨Nat.le_trans hs1 hb.1,hb.2⟩),HB1.out.trans (HB11.out.mono hs1)⟩
  ·obtain rfl:j=nL:=by omega
   have e:=HFI.out
   rw [List.drop_of_length_le (by omega)] at e;unfold rootsL at e;rw [List.append_nil] at e;subst e
   go_wp2_with fail
   go_ret
   exact ⟨A,c,rfl,(pr_fresh HO.out rfl).mono (fun _ _=>rfl) (fun b hb=>⟨Nat.le_trans hs1 hb.1,hb.2⟩),HB1.out.trans (HBR.out.mono hs1)⟩
set_option maxRecDepth 100000 in
set_option maxHeartbeats 8000000 in
theorem RRoots_f {g:GeoQ} {AU AL:Option Addr} {nU cU nL cL:Nat} {ls:List (List NodV)} (w:World) (h:RdE layEn w (Under w.heap.size) AL nL ls) (hF:FewL ls) :
  Calls Tryz.prog 76 #[.agg (stkC g (.slice AU nU cU) (.slice AL nL cL)).toArray] w (PlcsF w (rootsL ls 0)):=by
 have r0:=RowL.new w 29 (stkC g (.slice AU nU cU) (.slice AL nL cL))
 have hb1:=below_new (below_self w) (.cells (stkC g (.slice AU nU cU) (.slice AL nL cL)).toArray 29);obtain ⟨W1,hW1⟩:∃W1,w.alloc (.cells (stkC g (.slice AU nU cU) (.slice AL nL cL)).toArray 29)=W1:=⟨_,rfl⟩;rw [hW1] at r0 hb1;have hW1':w.alloc (.cells #[.int .i64 g.a,.int .i64 g.b,.int .i64 g.c,.int .i64 g.d,.slice AU nU cU,.slice AL nL cL] 29)=W1:=hW1
 have q5:W1.cell? ⟨w.heap.size,5,none⟩=some (.slice AL nL cL):=r0.cell 5
 have hm:ls.length≤100:=by have:=hF.1;omega
 have HM2:=hide (fun ns (hh:ns∈ls)=>(show ns.length≤1000 from Nat.le_trans (hF.2 ns hh).1 (by omega)));have R0:=hide r0;have HB1:=hide hb1;have hs1:=hb1.size;have HL:=hide (h.under hb1 (Nat.le_refl _))
 have hnL:nL≤3∧ls.length≤nL∧nL≤ls.length:=by have:=h.1;have:=hF.1;omega
 have HF:=hide hF;obtain ⟨R,hR⟩:∃R,rootsL ls 0=R:=⟨_,rfl⟩;rw [hR];have HR:=hide hR;have HO0:=hide (own_lit0 W1 31 2 (base:=W1.heap.size) rfl (Nat.le_refl _));have HW0:=hide (below_new (below_self W1) (.cells #[] 31));unfold stkC;clear r0 hb1 hW1 h hF hR
 go_enter Tryz.func76,Tryz.ntmps76
 go_wp2_with fail
 clear hW1' q5
 go_loopw [3,4] (fun v3 v4 wr=>∃(j:Nat) (acc:List (Int×Int)) (A:Option Addr) (c:Nat),j≤nL∧v4=.int .i64 ((j:Int)+1)∧v3=.slice A acc.length c∧acc.length≤j∧wr.ownsRow W1.heap.size 31 2 (.slice A acc.length c) acc.length (flatR acc)∧Below W1.heap.size W1 wr∧acc++rootsL (ls.drop j) j=R) (fun v3 v4 _=>nL+1 - (intOf v4).toNat)
 case atStart=>exact ⟨0,[],_,0,by omega,rfl,rfl,Nat.le_refl _,HO0.out,HW0.out,by rw [List.drop_zero];exact HR.out⟩
 case round =>
  obtain ⟨j,acc,A,c,hj,rfl,rfl,hal,ho,hbr,hfin⟩:=hrel;have HO:=hide ho;have HBR:=hide hbr;have HFI:=hide hfin;have hbsz:=hbr.size;have R0r:=hide (R0.out.on hbr)
  have q5:=cel R0r.out 5 rfl
  clear ho hbr hfin
  by_cases hlt:j < nL
  ·obtain ⟨ns,hns⟩:∃ns,ls[j]?=some ns:=⟨_,List.getElem?_eq_getElem (by omega)⟩
   obtain ⟨N,hN⟩:∃N,nodAt ns 1=N:=⟨_,rfl⟩;have hLN:lowAt ls ((j:Int)+1) 1=N:=(low_get hns).trans hN;have hath:=(low_plain HF.out ((j:Int)+1) 1).2.2.1;rw [hLN] at hath;have HLN:=hide hLN;obtain ⟨bk,hbk⟩:∃bk,(N.k==1)=bk:=⟨_,rfl⟩;obtain ⟨op,hop⟩:∃op,opq N=op:=⟨_,rfl⟩;have HROpq_b:=hide hop
   have e:=HFI.out
   have hjl:=(List.getElem?_eq_some_iff.1 hns).1;rw [List.drop_eq_getElem_cons hjl,(List.getElem?_eq_some_iff.1 hns).2] at e;unfold rootsL at e;rw [hN,hop] at e
   have HE:=hide (show (if bk=true then (if op=true then acc++[((j:Int)+1,1)] else (acc++[((j:Int)+1,1)])++rootsL (ls.drop (j+1)) (j+1)) else acc++rootsL (ls.drop (j+1)) (j+1))=R from by
    rw [←e,←hbk]
    by_cases hk:N.k=1 <;> cases op <;> simp [hk])
   have HZP:=hide (RowL.new wr 31 (prC (0,0)))
   have hjn:(j:Int) < (nL:Int):=by omega
   have hj3:(j:Int)+1≤(nL:Int):=by omega
   clear hns hN hLN hop e
   cases bk with
   | false =>
    go_wp2_with (first|(refine wpList_storeW rfl 31 (.tmp 5) (.tmp 16) rfl 2 plc_size wr.heap.size 31 rfl (prC (0,0)) (prC ((j:Int)+1,1)) rfl HZP.out rfl rfl (prC_one _) ?_;intro w6 hr6 hg6 hs6;have hb6:=below_stored' hg6;have R6:=hide hr6;have HB6:=hide hb6;have R06:=hide (R0r.out.on hb6);have hs6l:=hb6.size;clear hr6 hg6 hs6 hb6)|(refine wpList_loadW rfl 29 (.tmp 1) rfl 6 stk_agg stk_size w.heap.size 29 rfl (stkC g (.slice AU nU cU) (.slice AL nL cL)) R06.out rfl ?_)|(refine wpList_loadW rfl 31 (.tmp 5) rfl 2 plc_agg plc_size wr.heap.size 31 rfl (prC ((j:Int)+1,1)) R6.out rfl ?_)|(go_at_call 112;refine (RLower_e HLN.out w6 (HL.out.under (HBR.out.trans (HB6.out.mono hbsz)) hs1) (by omega) hm HM2.out).mono ?_;rintro ez w7 ⟨A1,n1,c1,C1,m1,d1,rfl,e2,e3,e4,e5,hb7⟩;have HB7:=hide (HB6.out.trans (hb7.mono hs6l));have hs7l:=hb7.size;have HZN:=hide (RowL.new w7 65 (nodC nod0 (.slice none 0 0) (.slice none 0 0)));have R67:=hide (R6.out.on hb7);clear e3 e5 hb7)|(refine wpList_storeW rfl 65 (.tmp 6) (.tmp 19) rfl 13 nod_size w7.heap.size 65 rfl (nodC nod0 (.slice none 0 0) (.slice none 0 0)) (nodC N (.slice A1 n1 c1) (.slice C1 m1 d1)) rfl HZN.out rfl rfl (nodC_one _ _ _ _ _ _ _) ?_;intro w9 hr9 hg9 hs9;have hb9:=below_stored' hg9;have qk:w9.cell? ⟨w7.heap.size,0,none⟩=some (.int .i64 N.k):=hr9.cell 0;have HR6:=hide hr9;have HR5:=hide (R67.out.on hb9);have HB9:=hide (HB7.out.trans (hb9.mono (by omega)));have hs9l:=HB9.out.size;clear hr9 hg9 hs9 hb9))
    go_roundw
    case rel=>exact ⟨j+1,acc,A,c,by omega,by go_num,rfl,by omega,ownsRow_below HO.out HB9.out,HBR.out.trans (HB9.out.mono hbsz),by have:=HE.out;simpa using this⟩
    case measure=>simp [intOf];omega
   | true =>
    have HLEN:=hide (show (acc++[((j:Int)+1,(1:Int))]).length=acc.length+1 by simp)
    go_wp2_with (first|(refine wpList_storeW rfl 31 (.tmp 5) (.tmp 16) rfl 2 plc_size wr.heap.size 31 rfl (prC (0,0)) (prC ((j:Int)+1,1)) rfl HZP.out rfl rfl (prC_one _) ?_;intro w6 hr6 hg6 hs6;have hb6:=below_stored' hg6;have R6:=hide hr6;have HB6:=hide hb6;have R06:=hide (R0r.out.on hb6);have hs6l:=hb6.size;clear hr6 hg6 hs6 hb6)|(refine wpList_loadW rfl 29 (.tmp 1) rfl 6 stk_agg stk_size w.heap.size 29 rfl (stkC g (.slice AU nU cU) (.slice AL nL cL)) R06.out rfl ?_)|(refine wpList_loadW rfl 31 (.tmp 5) rfl 2 plc_agg plc_size wr.heap.size 31 rfl (prC ((j:Int)+1,1)) R6.out rfl ?_)|(go_at_call 112;refine (RLower_e HLN.out w6 (HL.out.under (HBR.out.trans (HB6.out.mono hbsz)) hs1) (by omega) hm HM2.out).mono ?_;rintro ez w7 ⟨A1,n1,c1,C1,m1,d1,rfl,e2,e3,e4,e5,hb7⟩;have HB7:=hide (HB6.out.trans (hb7.mono hs6l));have hs7l:=hb7.size;have HZN:=hide (RowL.new w7 65 (nodC nod0 (.slice none 0 0) (.slice none 0 0)));have R67:=hide (R6.out.on hb7);clear e3 e5 hb7)|(refine wpList_storeW rfl 65 (.tmp 6) (.tmp 19) rfl 13 nod_size w7.heap.size 65 rfl (nodC nod0 (.slice none 0 0) (.slice none 0 0)) (nodC N (.slice A1 n1 c1) (.slice C1 m1 d1)) rfl HZN.out rfl rfl (nodC_one _ _ _ _ _ _ _) ?_;intro w9 hr9 hg9 hs9;have hb9:=below_stored' hg9;have qk:w9.cell? ⟨w7.heap.size,0,none⟩=some (.int .i64 N.k):=hr9.cell 0;have HR6:=hide hr9;have HR5:=hide (R67.out.on hb9);have HB9:=hide (HB7.out.trans (hb9.mono (by omega)));have hs9l:=HB9.out.size;clear hr9 hg9 hs9 hb9)|(refine wpList_loadW rfl 31 (.tmp 5) rfl 2 plc_agg plc_size wr.heap.size 31 rfl (prC ((j:Int)+1,1)) HR5.out rfl ?_)|(refine wpList_litW rfl 50 (.tmp 24) rfl (.agg (prC ((j:Int)+1,1)).toArray) _ rfl (lit_plc ((j:Int)+1,1) w9) ?_;refine wpList_plain rfl fun K2 hK2=>?_;go_loud (refine wp_appF w9 W1.heap.size _ rfl (.tmp 23) (.tmp 25) 50 31 rfl Tryz.underlying50 _ 2 16 plc_info rfl (by omega) (by omega) A acc.length c _ (prC ((j:Int)+1,1)) rfl (prC_one _) rfl (ownsRow_below HO.out HB9.out) rfl (by omega) (by omega) ?_);intro A5 c5 w10 ho10 hg10;refine hK2 _ _ ?_;clear hK2 K2;have HO10:=hide ho10;have hba:=below_new (below_self w9) (.cells (prC ((j:Int)+1,1)).toArray 31);have hoa:=ownsRow_below (ownsRow_below HO.out HB9.out) hba;have HR6b:=hide ((HR6.out.on hba).grown hg10 (row_apart hoa (HR6.out.on hba) (by decide)));have HB10:=hide (((HBR.out.trans (HB9.out.mono hbsz)).trans (hba.mono (by omega))).grown hg10 (by have:=hba.size;omega) (fun q hq=>(own_block hoa q hq).1));clear ho10 hg10 hba hoa)|(refine wpList_loadW rfl 65 (.tmp 6) rfl 13 nod_agg nod_size w7.heap.size 65 rfl (nodC N (.slice A1 n1 c1) (.slice C1 m1 d1)) HR6b.out rfl ?_))
    refine (ROpq_b HROpq_b.out hath.1 hath.2 _).mono ?_
    rintro ez w11 ⟨rfl,hb11⟩
    have HO11:=hide (ownsRow_below HO10.out hb11);have HB11:=hide (HB10.out.trans (hb11.mono (by have:=HB10.out.size;omega)));clear hb11
    cases op with
    | false =>
     go_wp2_with fail
     go_roundw
     case rel=>exact ⟨j+1,acc++[((j:Int)+1,1)],A5,c5,by omega,by go_num,by rw [HLEN.out],by rw [HLEN.out];omega,by rw [HLEN.out,flatR_snoc];exact HO11.out,HB11.out,by have:=HE.out;simpa using this⟩
     case measure=>simp [intOf];omega
    | true =>
     have hE:R=acc++[((j:Int)+1,1)]:=by have:=HE.out.symm;simpa using this
     subst hE
     go_wp2_with fail
     rw [show acc.length+1=(acc++[((j:Int)+1,(1:Int))]).length from HLEN.out.symm]
     go_ret
     exact ⟨A5,c5,rfl,(pr_fresh (by rw [HLEN.out,flatR_snoc];exact HO11.out) rfl).mono (fun _ _=>rfl) (fun b hb=>⟨Nat.le_trans hs1 hb.1,hb.2⟩),HB1.out.trans (HB11.out.mono hs1)⟩
  ·obtain rfl:j=nL:=by omega
   have e:=HFI.out
   rw [List.drop_of_length_le (by omega)] at e;unfold rootsL at e;rw [List.append_nil] at e;subst e
   have hjn:¬((j:Int)+1≤(j:Int)):=by omega
   go_wp2_with fail
   go_ret
   exact ⟨A,c,rfl,(pr_fresh HO.out rfl).mono (fun _ _=>rfl) (fun b hb=>⟨Nat.le_trans hs1 hb.1,hb.2⟩),HB1.out.trans (HBR.out.mono hs1)⟩
end Go.Proofs.YtggnbflbbfdohaaGreat

namespace Go.Proofs.YtggnbflbbfdohaaGreat
open Go.RowKit Go.Shelf Plain

theorem rootsL_len : ∀ (ls : List (List NodV)) (j : Nat), (rootsL ls j).length ≤ ls.length
 | [],j=>by simp [rootsL]
 | ns::r,j=>by
  have:=rootsL_len r (j+1)
  unfold rootsL
  split
  ·split <;> simp <;> omega
  ·simp;omega
theorem lookL_len (ls : List (List NodV)) : ∀ (l : List (Int × Int)) (ns : List (List UInt8)), ((lookL ls l ns).getD []).length ≤ l.length
 | l,[]=>by simp [lookL]
 | l,x::r=>by
  unfold lookL;have h1:=findL_len ls x l []
  split
  ·have:=lookL_len ls (findL ls x l []).2 r
   simp at h1;omega
  ·simp
end Go.Proofs.YtggnbflbbfdohaaGreat

namespace Go.Proofs.YtggnbflbbfdohaaGreat.Plain
def stepJ (s:List UInt8×Bool) (x:List UInt8):List UInt8×Bool:=((if s.2=true then s.1 else s.1++[47])++x,false)
def joinS (l:List (List UInt8)):List UInt8:=(l.foldl stepJ ([47],true)).1
def totL (l:List (List UInt8)):Nat:=(l.map fun x=>x.length+1).sum
theorem totL_snoc (l:List (List UInt8)) (x:List UInt8):totL (l++[x])=totL l+(x.length+1):=by simp [totL]
theorem totL_append (a b:List (List UInt8)):totL (a++b)=totL a+totL b:=by simp [totL]
theorem totL_take (l:List (List UInt8)) (k:Nat):totL (l.take k)≤totL l:=by
 have h:=totL_append (l.take k) (l.drop k);rw [List.take_append_drop] at h;omega
theorem flagJ (l:List (List UInt8)):(l.foldl stepJ ([47],true)).2=decide (l.length=0):=by
 suffices h:∀(l:List (List UInt8)) (s:List UInt8×Bool),(l.foldl stepJ s).2=(s.2&&decide (l.length=0)) from by rw [h];simp
 intro l
 induction l with
 | nil=>intro s;simp
 | cons x r ih=>intro s;rw [List.foldl_cons,ih];simp [stepJ]
theorem joinS_snoc (l:List (List UInt8)) (x:List UInt8):joinS (l++[x])=(if l.length=0 then joinS l else joinS l++[47])++x:=by
 unfold joinS;rw [List.foldl_append,List.foldl_cons,List.foldl_nil]
 show (if (l.foldl stepJ ([47],true)).2=true then _ else _)++x=_
 rw [flagJ];simp
theorem joinS_length (l:List (List UInt8)):(joinS l).length≤1+totL l:=by
 suffices h:∀(l:List (List UInt8)) (s:List UInt8×Bool),((l.foldl stepJ s).1).length≤s.1.length+totL l from h l ([47],true)
 intro l
 induction l with
 | nil=>intro s;simp
 | cons x r ih =>
  intro s;rw [List.foldl_cons];have h1:=ih (stepJ s x)
  have h2:(stepJ s x).1.length≤s.1.length+(x.length+1):=by
   unfold stepJ;simp only [List.length_append]
   split <;> simp <;> omega
  have h3:totL (x::r)=(x.length+1)+totL r:=by simp [totL]
  omega
def stepP (o:List (List UInt8)) (c:UInt8):List (List UInt8):=if c=47 then o++[[]] else o.set (o.length - 1) (o.getD (o.length - 1) []++[c])
def partsTo (s:List UInt8) (j:Nat):List (List UInt8):=((s.take j).drop 1).foldl stepP [[]]
def partsS (s:List UInt8):List (List UInt8):=(s.drop 1).foldl stepP [[]]
theorem partsTo_one (s:List UInt8):partsTo s 1=[[]]:=by
 unfold partsTo;rw [List.drop_eq_nil_of_le (by rw [List.length_take];omega)]
 rfl
theorem partsTo_succ {s:List UInt8} {j:Nat} (h1:1≤j) (h:j < s.length):partsTo s (j+1)=stepP (partsTo s j) s[j]:=by
 unfold partsTo;rw [List.take_succ_eq_append_getElem h,List.drop_append_of_le_length (by rw [List.length_take];omega),List.foldl_append]
 rfl
theorem partsTo_all {s:List UInt8} {j:Nat} (h:s.length≤j):partsTo s j=partsS s:=by
 unfold partsTo partsS;rw [List.take_of_length_le h]
theorem stepP_length (o:List (List UInt8)) (c:UInt8):(stepP o c).length=if c=47 then o.length+1 else o.length:=by
 unfold stepP
 split <;> simp
theorem partsTo_len (s:List UInt8) (j:Nat):1≤(partsTo s j).length∧(partsTo s j).length≤1+j∧∀y∈partsTo s j,y.length≤j:=by
 unfold partsTo
 suffices h:∀(r:List UInt8) (o:List (List UInt8)) (b:Nat),1≤o.length→(∀y∈o,y.length≤b) →
   1≤(r.foldl stepP o).length∧(r.foldl stepP o).length≤o.length+r.length∧∀y∈r.foldl stepP o,y.length≤b+r.length by
  have hl:((s.take j).drop 1).length≤j:=by simp;omega
  obtain ⟨h1,h2,h3⟩:=h ((s.take j).drop 1) [[]] 0 (by simp) (by simp);refine ⟨h1,by simp only [List.length_singleton] at h2;omega,fun y hy=>?_⟩
  have:=h3 y hy
  omega
 intro r
 induction r with
 | nil=>intro o b h1 h2;exact ⟨h1,by simp,fun y hy=>by have:=h2 y hy;simpa using this⟩
 | cons c r ih =>
  intro o b h1 h2;rw [List.foldl_cons]
  have h3:∀y∈stepP o c,y.length≤b+1:=by
   intro y hy;unfold stepP at hy
   split at hy
   ·rw [List.mem_append] at hy
    rcases hy with hy|hy
    ·have:=h2 y hy;omega
    ·simp at hy;subst hy;simp
   ·rcases List.mem_or_eq_of_mem_set hy with hy|hy
    ·have:=h2 y hy;omega
    ·subst hy
     have hm:o.getD (o.length - 1) []∈o:=by
      simp only [List.getD];rw [List.getElem?_eq_getElem (by omega)];exact List.getElem_mem (by omega)
     have:=h2 _ hm
     rw [List.length_append,List.length_singleton];omega
  have h4:=stepP_length o c;obtain ⟨a1,a2,a3⟩:=ih (stepP o c) (b+1) (by rw [h4];split <;> omega) h3;refine ⟨a1,?_,fun y hy=>?_⟩
  ·rw [List.length_cons]
   have:(stepP o c).length≤o.length+1:=by rw [h4];split <;> omega
   omega
  ·have:=a3 y hy
   rw [List.length_cons];omega
theorem partsS_len (s:List UInt8):(partsS s).length≤1+s.length∧∀y∈partsS s,y.length≤s.length:=by
 have h:=partsTo_len s s.length;rw [partsTo_all (Nat.le_refl _)] at h;exact h.2
def headB (s:List UInt8):Bool:=match s with|[]=>false|c::_=>c==47
def splitB (s:List UInt8):Bool:=s==[47]||(headB s&&(partsS s).all nameB)
def splitS (s:List UInt8):List (List UInt8):=if s=[47] then [] else if (headB s&&(partsS s).all nameB)=true then partsS s else []
def stepC (o:Option (List (List UInt8))) (y:List UInt8):Option (List (List UInt8)) :=
 match o with
 | none=>none
 | some o=>if y=[]∨y=[46] then some o else if y=[46,46] then (if o=[] then none else some o.dropLast) else if nameB y=true then some (o++[y]) else none
def leftS (l:List (List UInt8)):Option (List (List UInt8)):=l.foldl stepC (some [])
theorem leftS_snoc (l:List (List UInt8)) (y:List UInt8):leftS (l++[y])=stepC (leftS l) y:=by simp [leftS]
def cleanB (s:List UInt8):Bool:=headB s&&(leftS (partsS s)).isSome
def cleanS (s:List UInt8):List UInt8:=if headB s=true then (match leftS (partsS s) with|none=>[]|some o=>joinS o) else []
theorem leftS_len (l:List (List UInt8)):∀o,leftS l=some o→o.length≤l.length∧totL o≤totL l:=by
 suffices h:∀(l:List (List UInt8)) (o0:List (List UInt8)),∀o,l.foldl stepC (some o0)=some o→o.length≤o0.length+l.length∧totL o≤totL o0+totL l by
  intro o ho
  have:=h l [] o ho
  simpa [totL] using this
 intro l
 induction l with
 | nil=>intro o0 o ho;cases ho;exact ⟨Nat.le_refl _,Nat.le_refl _⟩
 | cons y r ih =>
  intro o0 o ho;rw [List.foldl_cons] at ho
  have hy:totL (y::r)=(y.length+1)+totL r:=by simp [totL]
  rw [hy,List.length_cons];unfold stepC at ho;simp only at ho
  split at ho
  ·have:=ih _ _ ho;omega
  ·split at ho
   ·split at ho
    ·exfalso
     clear ih hy
     induction r with
     | nil=>cases ho
     | cons z r ih2=>exact ih2 ho
    ·have h1:=ih _ _ ho
     have h2:totL o0.dropLast≤totL o0:=by rw [List.dropLast_eq_take];exact totL_take _ _
     rw [List.length_dropLast] at h1;omega
   ·split at ho
    ·have h1:=ih _ _ ho
     rw [totL_snoc,List.length_append,List.length_singleton] at h1;omega
    ·exfalso
     clear ih hy
     induction r with
     | nil=>cases ho
     | cons z r ih2=>exact ih2 ho
theorem totL_le {l:List (List UInt8)} {b:Nat} (h:∀y∈l,y.length≤b):totL l≤l.length*(b+1):=by
 induction l with
 | nil=>simp [totL]
 | cons y r ih =>
  have h1:=ih (fun z hz=>h z (List.mem_cons_of_mem _ hz));have h2:=h y (List.mem_cons_self)
  have:totL (y::r)=(y.length+1)+totL r:=by simp [totL]
  rw [this,List.length_cons,Nat.add_mul];omega
def redL (s:List UInt8):List (List UInt8):=if 24 < s.length then [] else if headB s=true then splitS s else if nameB s=true then [s] else []
def redA (s:List UInt8):Bool:=if 24 < s.length then false else if headB s=true then splitB s else false
def redB (s:List UInt8):Bool:=if 24 < s.length then false else if headB s=true then splitB s else nameB s
end Go.Proofs.YtggnbflbbfdohaaGreat.Plain

