import Derived.Test.YtmhiohnkjpglfaaGreatWs16

namespace Go.Proofs.YtmhiohnkjpglfaaGreat
open Go.RowKit Go.Shelf Plain

def rootsL : List (List NodV) → Nat → List (Int × Int)
 | [],_=>[]
 | ns::r,j=>if (nodAt ns 1).k=1 then (if opq (nodAt ns 1)=true then [((j:Int)+1,1)] else ((j:Int)+1,1)::rootsL r (j+1)) else rootsL r (j+1)
theorem low_get {ls:List (List NodV)} {j:Nat} {ns:List NodV} {i:Int} (h:ls[j]?=some ns):lowAt ls ((j:Int)+1) i=nodAt ns i:=by
 have hj:=(List.getElem?_eq_some_iff.1 h).1
 unfold lowAt
 rw [if_pos ⟨by omega,by omega⟩,show ((j:Int)+1 - 1).toNat=j by omega,h]
 rfl
set_option maxRecDepth 100000 in
set_option maxHeartbeats 8000000 in
theorem Roots_f {g:GeoQ} {AU AL:Option Addr} {nU cU nL cL:Nat} {ls:List (List NodV)} (w:World) (h:RdE layEn w (Under w.heap.size) AL nL ls) (hF:FewL ls) :
  Calls Tryz.prog 123 #[.agg (stkC g (.slice AU nU cU) (.slice AL nL cL)).toArray] w (PlcsF w (rootsL ls 0)):=by
 have r0:=RowL.new w 29 (stkC g (.slice AU nU cU) (.slice AL nL cL))
 have hb1:=below_new (below_self w) (.cells (stkC g (.slice AU nU cU) (.slice AL nL cL)).toArray 29)
 obtain ⟨W1,hW1⟩:∃W1,w.alloc (.cells (stkC g (.slice AU nU cU) (.slice AL nL cL)).toArray 29)=W1:=⟨_,rfl⟩
 rw [hW1] at r0 hb1
 have hW1':w.alloc (.cells #[.int .i64 g.a,.int .i64 g.b,.int .i64 g.c,.int .i64 g.d,.slice AU nU cU,.slice AL nL cL] 29)=W1:=hW1
 have q5:W1.cell? ⟨w.heap.size,5,none⟩=some (.slice AL nL cL):=r0.cell 5
 have hm:ls.length≤100:=by have:=hF.1;omega
 have HM2:=hide (fun ns (hh:ns∈ls)=>(show ns.length≤1000 from Nat.le_trans (hF.2 ns hh).1 (by omega)))
 have R0:=hide r0
 have HB1:=hide hb1
 have hs1:=hb1.size
 have HL:=hide (h.under hb1 (Nat.le_refl _))
 have hnL:nL≤3∧ls.length≤nL∧nL≤ls.length:=by have:=h.1;have:=hF.1;omega
 have HF:=hide hF
 obtain ⟨R,hR⟩:∃R,rootsL ls 0=R:=⟨_,rfl⟩
 rw [hR]
 have HR:=hide hR
 have HO0:=hide (own_lit0 W1 31 2 (base:=W1.heap.size) rfl (Nat.le_refl _))
 have HW0:=hide (below_new (below_self W1) (.cells #[] 31))
 unfold stkC
 clear r0 hb1 hW1 h hF hR
 go_enter Tryz.func123,Tryz.ntmps123
 go_wp2_with fail
 clear hW1' q5
 go_loopw [3,10] (fun v3 v10 wr=>∃(j:Nat) (acc:List (Int×Int)) (A:Option Addr) (c:Nat),j≤nL∧v10=.int .i64 j∧v3=.slice A acc.length c∧acc.length≤j∧wr.ownsRow W1.heap.size 31 2 (.slice A acc.length c) acc.length (flatR acc)∧Below W1.heap.size W1 wr∧acc++rootsL (ls.drop j) j=R) (fun v3 v10 _=>nL - (intOf v10).toNat)
 case atStart=>exact ⟨0,[],none,0,by omega,rfl,rfl,Nat.le_refl _,World.ownsRow_nil _ _ _ _,below_self _,by rw [List.drop_zero];exact HR.out⟩
 case round =>
  obtain ⟨j,acc,A,c,hj,rfl,rfl,hal,ho,hbr,hfin⟩:=hrel
  have HO:=hide ho
  have HBR:=hide hbr
  have HFI:=hide hfin
  have hbsz:=hbr.size
  have R0r:=hide (R0.out.on hbr)
  clear ho hbr hfin
  by_cases hlt:j < nL
  ·obtain ⟨ns,hns⟩:∃ns,ls[j]?=some ns:=⟨_,List.getElem?_eq_getElem (by omega)⟩
   obtain ⟨N,hN⟩:∃N,nodAt ns 1=N:=⟨_,rfl⟩
   have hLN:lowAt ls ((j:Int)+1) 1=N:=(low_get hns).trans hN
   have hath:=(low_plain HF.out ((j:Int)+1) 1).2.2.1
   rw [hLN] at hath
   have HLN:=hide hLN
   obtain ⟨bk,hbk⟩:∃bk,(N.k != 1)=bk:=⟨_,rfl⟩
   obtain ⟨op,hop⟩:∃op,opq N=op:=⟨_,rfl⟩
   have HMarked_b:=hide hop
   have e:=HFI.out
   have hjl:=(List.getElem?_eq_some_iff.1 hns).1
   rw [List.drop_eq_getElem_cons hjl,(List.getElem?_eq_some_iff.1 hns).2] at e
   unfold rootsL at e
   rw [hN,hop] at e
   have HE:=hide (show (if bk=false then (if op=true then acc++[((j:Int)+1,1)] else (acc++[((j:Int)+1,1)])++rootsL (ls.drop (j+1)) (j+1)) else acc++rootsL (ls.drop (j+1)) (j+1))=R from by
    rw [←e,←hbk]
    by_cases hk:N.k=1 <;> cases op <;> simp [hk])
   have HZP:=hide (RowL.new wr 31 (prC (0,0)))
   have hjn:(j:Int) < (nL:Int):=by omega
   have hj3:(j:Int)+1≤(nL:Int):=by omega
   clear hns hN hLN hop e
   cases bk with
   | true =>
    go_wp2_with (first|(refine wpList_storeW rfl 31 (.tmp 5) (.tmp 15) rfl 2 plc_size wr.heap.size 31 rfl (prC (0,0)) (prC ((j:Int)+1,1)) rfl HZP.out rfl rfl (prC_one _) ?_;intro w6 hr6 hg6 hs6;have hb6:=below_stored' hg6;have R6:=hide hr6;have HB6:=hide hb6;have R06:=hide (R0r.out.on hb6);have hs6l:=hb6.size;clear hr6 hg6 hs6 hb6)|(refine wpList_loadW rfl 29 (.tmp 1) rfl 6 stk_agg stk_size w.heap.size 29 rfl (stkC g (.slice AU nU cU) (.slice AL nL cL)) R06.out rfl ?_)|(refine wpList_loadW rfl 31 (.tmp 5) rfl 2 plc_agg plc_size wr.heap.size 31 rfl (prC ((j:Int)+1,1)) R6.out rfl ?_)|(go_at_call 160;refine (NLower_e HLN.out w6 (HL.out.under (HBR.out.trans (HB6.out.mono hbsz)) hs1) (by omega) hm HM2.out).mono ?_;rintro ez w7 ⟨A1,n1,c1,C1,m1,d1,rfl,e2,e3,e4,e5,hb7⟩;have HB7:=hide (HB6.out.trans (hb7.mono hs6l));have hs7l:=hb7.size;have HZN:=hide (RowL.new w7 67 (nodC nod0 (.slice none 0 0) (.slice none 0 0)));have R67:=hide (R6.out.on hb7);clear e3 e5 hb7)|(refine wpList_storeW rfl 67 (.tmp 6) (.tmp 18) rfl 13 nod_size w7.heap.size 67 rfl (nodC nod0 (.slice none 0 0) (.slice none 0 0)) (nodC N (.slice A1 n1 c1) (.slice C1 m1 d1)) rfl HZN.out rfl rfl (nodC_one _ _ _ _ _ _ _) ?_;intro w9 hr9 hg9 hs9;have hb9:=below_stored' hg9;have qk:w9.cell? ⟨w7.heap.size,0,none⟩=some (.int .i64 N.k):=hr9.cell 0;have HR6:=hide hr9;have HR5:=hide (R67.out.on hb9);have HB9:=hide (HB7.out.trans (hb9.mono (by omega)));have hs9l:=HB9.out.size;clear hr9 hg9 hs9 hb9))
    go_roundw
    case rel=>exact ⟨j+1,acc,A,c,by omega,by go_num,rfl,by omega,ownsRow_below HO.out HB9.out,HBR.out.trans (HB9.out.mono hbsz),by have:=HE.out;simpa using this⟩
    case measure=>simp [intOf];omega
   | false =>
    have HLEN:=hide (show (acc++[((j:Int)+1,(1:Int))]).length=acc.length+1 by simp)
    go_wp2_with (first|(refine wpList_storeW rfl 31 (.tmp 5) (.tmp 15) rfl 2 plc_size wr.heap.size 31 rfl (prC (0,0)) (prC ((j:Int)+1,1)) rfl HZP.out rfl rfl (prC_one _) ?_;intro w6 hr6 hg6 hs6;have hb6:=below_stored' hg6;have R6:=hide hr6;have HB6:=hide hb6;have R06:=hide (R0r.out.on hb6);have hs6l:=hb6.size;clear hr6 hg6 hs6 hb6)|(refine wpList_loadW rfl 29 (.tmp 1) rfl 6 stk_agg stk_size w.heap.size 29 rfl (stkC g (.slice AU nU cU) (.slice AL nL cL)) R06.out rfl ?_)|(refine wpList_loadW rfl 31 (.tmp 5) rfl 2 plc_agg plc_size wr.heap.size 31 rfl (prC ((j:Int)+1,1)) R6.out rfl ?_)|(go_at_call 160;refine (NLower_e HLN.out w6 (HL.out.under (HBR.out.trans (HB6.out.mono hbsz)) hs1) (by omega) hm HM2.out).mono ?_;rintro ez w7 ⟨A1,n1,c1,C1,m1,d1,rfl,e2,e3,e4,e5,hb7⟩;have HB7:=hide (HB6.out.trans (hb7.mono hs6l));have hs7l:=hb7.size;have HZN:=hide (RowL.new w7 67 (nodC nod0 (.slice none 0 0) (.slice none 0 0)));have R67:=hide (R6.out.on hb7);clear e3 e5 hb7)|(refine wpList_storeW rfl 67 (.tmp 6) (.tmp 18) rfl 13 nod_size w7.heap.size 67 rfl (nodC nod0 (.slice none 0 0) (.slice none 0 0)) (nodC N (.slice A1 n1 c1) (.slice C1 m1 d1)) rfl HZN.out rfl rfl (nodC_one _ _ _ _ _ _ _) ?_;intro w9 hr9 hg9 hs9;have hb9:=below_stored' hg9;have qk:w9.cell? ⟨w7.heap.size,0,none⟩=some (.int .i64 N.k):=hr9.cell 0;have HR6:=hide hr9;have HR5:=hide (R67.out.on hb9);have HB9:=hide (HB7.out.trans (hb9.mono (by omega)));have hs9l:=HB9.out.size;clear hr9 hg9 hs9 hb9)|(refine wpList_loadW rfl 31 (.tmp 5) rfl 2 plc_agg plc_size wr.heap.size 31 rfl (prC ((j:Int)+1,1)) HR5.out rfl ?_)|(refine wpList_litW rfl 49 (.tmp 23) rfl (.agg (prC ((j:Int)+1,1)).toArray) _ rfl (lit_plc ((j:Int)+1,1) w9) ?_;refine wpList_plain rfl fun K2 hK2=>?_;go_loud (refine wp_appF w9 W1.heap.size _ rfl (.tmp 22) (.tmp 24) 49 31 rfl Tryz.underlying49 _ 2 16 plc_info rfl (by omega) (by omega) A acc.length c _ (prC ((j:Int)+1,1)) rfl (prC_one _) rfl (ownsRow_below HO.out HB9.out) rfl (by omega) (by omega) ?_);intro A5 c5 w10 ho10 hg10;refine hK2 _ _ ?_;clear hK2 K2;have HO10:=hide ho10;have hba:=below_new (below_self w9) (.cells (prC ((j:Int)+1,1)).toArray 31);have hoa:=ownsRow_below (ownsRow_below HO.out HB9.out) hba;have HR6b:=hide ((HR6.out.on hba).grown hg10 (row_apart hoa (HR6.out.on hba) (by decide)));have HB10:=hide (((HBR.out.trans (HB9.out.mono hbsz)).trans (hba.mono (by omega))).grown hg10 (by have:=hba.size;omega) (fun q hq=>(own_block hoa q hq).1));clear ho10 hg10 hba hoa)|(refine wpList_loadW rfl 67 (.tmp 6) rfl 13 nod_agg nod_size w7.heap.size 67 rfl (nodC N (.slice A1 n1 c1) (.slice C1 m1 d1)) HR6b.out rfl ?_))
    refine (Marked_b HMarked_b.out hath.1 hath.2 _).mono ?_
    rintro ez w11 ⟨rfl,hb11⟩
    have HO11:=hide (ownsRow_below HO10.out hb11)
    have HB11:=hide (HB10.out.trans (hb11.mono (by have:=HB10.out.size;omega)))
    clear hb11
    cases op with
    | false =>
     go_wp2_with fail
     go_roundw
     case rel=>exact ⟨j+1,acc++[((j:Int)+1,1)],A5,c5,by omega,by go_num,by rw [HLEN.out],by rw [HLEN.out];omega,by rw [HLEN.out,flatR_snoc];exact HO11.out,HB11.out,by have:=HE.out;simpa using this⟩
     case measure=>simp [intOf];omega
    | true =>
     have hE:R=acc++[((j:Int)+1,1)]:=by have:=HE.out.symm;simpa using this
     subst hE
     go_wp2_with fail
     rw [show acc.length+1=(acc++[((j:Int)+1,(1:Int))]).length from HLEN.out.symm]
     go_ret
     exact ⟨A5,c5,rfl,(pr_fresh (by rw [HLEN.out,flatR_snoc];exact HO11.out) rfl).mono (fun _ _=>rfl) (fun b hb=>⟨Nat.le_trans hs1 hb.1,hb.2⟩),HB1.out.trans (HB11.out.mono hs1)⟩
  ·obtain rfl:j=nL:=by omega
   have e:=HFI.out
   rw [List.drop_of_length_le (by omega)] at e
   unfold rootsL at e
   rw [List.append_nil] at e
   subst e
   go_wp2_with fail
   go_ret
   exact ⟨A,c,rfl,(pr_fresh HO.out rfl).mono (fun _ _=>rfl) (fun b hb=>⟨Nat.le_trans hs1 hb.1,hb.2⟩),HB1.out.trans (HBR.out.mono hs1)⟩
end Go.Proofs.YtmhiohnkjpglfaaGreat

namespace Go.Proofs.YtmhiohnkjpglfaaGreat
open Go.RowKit Go.Shelf Plain

def IfRet (w:World) (b:Bool) (P:Prop) (e:Ending) (w':World):Prop:=∃p:Bool,e=.returned (.bool p)∧Below w.heap.size w w'∧(p=b→P)
def FewB (many:Int) (ns:List NodV):Prop:=(ns.length:Int)≤many∧∀x∈ns,PlainN x
def FineN (ns:List NodV):Prop:=∀x∈ns,x.ents.length≤9223372036854775807
set_option maxRecDepth 100000 in
set_option maxHeartbeats 1600000 in
theorem PSt1_any {A:Option Addr} {n c gM:Nat} {many:Int} {ns:List NodV} (w:World) (h:RdE nodEn w (Under w.heap.size) A n ns) (hM:w.cell? ⟨gM,0,none⟩=some (.int .i64 many)) (hg:gM < w.heap.size) (hmany:many≤100000) (hsm:FineN ns) :
  Calls Tryz.prog 52 #[.agg #[.slice A n c],.pointer (some ⟨gM,0,none⟩)] w (IfRet w false (FewB many ns)):=by
 have r:=RowL.new w 26 [.slice A n c]
 have hb:=below_new (below_self w) (.cells [Value.slice A n c].toArray 26)
 obtain ⟨W1,hW1⟩:∃W1,w.alloc (.cells [Value.slice A n c].toArray 26)=W1:=⟨_,rfl⟩
 have H0:=h.on hb
 have q1:=(hb.cell (p:=⟨gM,0,none⟩) hg).trans hM
 rw [hW1] at r hb H0 q1
 have hW1':w.alloc (.cells #[.slice A n c] 26)=W1:=hW1
 have q0:W1.cell? ⟨w.heap.size,0,none⟩=some (.slice A n c):=r.cell 0
 have HN:=hide H0
 have HB:=hide hb
 have HFI:=hide hsm
 have HLN:=hide h.1
 clear r hb H0 hW1 h hsm hM
 go_enter Tryz.func52,Tryz.ntmps52
 go_wp2_with fail
 refine (PBranch_any W1 HN.out hmany HFI.out).mono ?_
 rintro e w3 ⟨p,rfl,hb3,hp⟩
 have HP:=hide hp
 have HB3:=hide (HB.out.trans (hb3.mono HB.out.size))
 clear hp hb3 q0 q1 hW1'
 cases p
 ·go_wp2_with fail
  go_ret
  exact ⟨true,rfl,HB3.out,fun h=>by cases h⟩
 ·go_wp2_with fail
  go_ret
  exact ⟨false,rfl,HB3.out,fun _=>by have:=HP.out (by first|rfl|trivial);exact ⟨by rw [HLN.out];exact this.1,this.2⟩⟩
set_option maxRecDepth 100000 in
set_option maxHeartbeats 1600000 in
theorem BrIdx_any {A:Option Addr} {n c gM:Nat} {many:Int} {l:List (List NodV)} (w:World) (h:RdE layEn w (Under w.heap.size) A n l) (hM:w.cell? ⟨gM,0,none⟩=some (.int .i64 many)) (hg:gM < w.heap.size) (hmany:many≤100000) (hn:n≤100000) (hsm:∀ns∈l,FineN ns) :
  Calls Tryz.prog 102 #[.slice A n c,.func (.func 52) #[] #[.pointer (some ⟨gM,0,none⟩)]] w (fun e w'=>∃r:Int,e=.returned (.int .i64 r)∧Below w.heap.size w w'∧(r < 0→∀ns∈l,FewB many ns)):=by
 have H:=hide h
 have hln:=h.1
 have HSM:=hide hsm
 have HM:=hide hM
 clear h hsm hM
 go_enter Tryz.func102,Tryz.ntmps102
 go_wp2
 go_loopw [8] (fun iv wr=>∃j:Nat,j≤n∧iv=.int .i64 j∧Below w.heap.size w wr∧∀i x,i < j→l[i]?=some x→FewB many x) (fun iv _=>n - (intOf iv).toNat)
 case atStart=>exact ⟨0,by omega,rfl,below_self _,fun i x hi=>by omega⟩
 case round =>
  obtain ⟨j,hj,rfl,hbr,hall⟩:=hrel
  have HBR:=hide hbr
  have HALL:=hide hall
  have hbsz:=hbr.size
  clear hbr hall
  by_cases hlt:j < n
  ·obtain ⟨ns,hx⟩:∃ns,l[j]?=some ns:=⟨_,List.getElem?_eq_getElem (by omega)⟩
   obtain ⟨b,o,rfl,hbB,A2,n2,c2,hc,hc2,hN2⟩:=RdE.get_list (F:=nodEn) (H.out.on HBR.out) hx
   have HN2:=hide hN2
   have q:wr.cell? ⟨b,o+j,none⟩=some (.slice A2 n2 c2):=hc
   have HX:=hide hx
   have HFI:=hide (HSM.out ns (List.mem_of_getElem? hx))
   have HM2:=hide ((HBR.out.cell (p:=⟨gM,0,none⟩) hg).trans HM.out)
   have hjn:(j:Int) < (n:Int):=by omega
   clear hx hN2 hc
   go_wp2_with fail
   refine (PSt1_any wr HN2.out HM2.out (by omega) hmany HFI.out).mono ?_
   rintro e w3 ⟨p,rfl,hb3,hp⟩
   have HP:=hide hp
   have HB3:=hide (HBR.out.trans (hb3.mono hbsz))
   clear hp hb3 q
   cases p with
   | true =>
    go_wp2_with fail
    go_ret
    exact ⟨(j:Int),rfl,HB3.out,fun h=>by omega⟩
   | false =>
    go_wp2_with fail
    go_roundw
    case rel=>exact ⟨j+1,by omega,by go_num,HB3.out,fun i y hi hy=>by
     by_cases e:i=j
     ·subst e
      have:=HX.out.symm.trans hy
      cases this
      exact HP.out (by first|rfl|trivial)
     ·exact HALL.out i y (by omega) hy⟩
    case measure=>simp [intOf];omega
  ·obtain rfl:j=n:=by omega
   go_wp2_with fail
   go_ret
   exact ⟨-1,rfl,HBR.out,fun _ x hx=>by
    obtain ⟨i,hi,rfl⟩:=List.mem_iff_getElem.1 hx
    exact HALL.out i _ (by omega) (List.getElem?_eq_getElem hi)⟩
set_option maxRecDepth 100000 in
theorem BrHas_any {A:Option Addr} {n c gM:Nat} {many:Int} {l:List (List NodV)} (w:World) (h:RdE layEn w (Under w.heap.size) A n l) (hM:w.cell? ⟨gM,0,none⟩=some (.int .i64 many)) (hg:gM < w.heap.size) (hmany:many≤100000) (hn:n≤100000) (hsm:∀ns∈l,FineN ns) :
  Calls Tryz.prog 51 #[.slice A n c,.func (.func 52) #[] #[.pointer (some ⟨gM,0,none⟩)]] w (IfRet w false (∀ns∈l,FewB many ns)):=by
 have H:=hide h
 have HM:=hide hM
 clear h hM
 go_enter Tryz.func51,Tryz.ntmps51
 go_wp2_with (go_at_call 102;refine (BrIdx_any w H.out HM.out hg hmany hn hsm).mono ?_;rintro e w3 ⟨r,rfl,hb3,hp⟩;have HP:=hide hp;have HB3:=hide hb3;clear hp hb3)
 go_ret
 exact ⟨_,rfl,HB3.out,fun h=>HP.out (by simpa using h)⟩
set_option maxRecDepth 100000 in
set_option maxHeartbeats 4000000 in
theorem PStackM_any {many:Int} (hmm:many≤24) {g:GeoQ} {AU AL:Option Addr} {nU cU nL cL:Nat} {up:List NodV} {ls:List (List NodV)} (w:World) (hu:RdE nodEn w (Under w.heap.size) AU nU up) (h:RdE layEn w (Under w.heap.size) AL nL ls) (hfu:FineN up) (hfl:∀ns∈ls,FineN ns) :
  Calls Tryz.prog 9 #[.agg (stkC g (.slice AU nU cU) (.slice AL nL cL)).toArray,.int .i64 many] w (IfRet w true (FewL ls∧FewB many up)):=by
 obtain ⟨r0,r1,hb2,hs2⟩:=rows2 w (stkC g (.slice AU nU cU) (.slice AL nL cL)) [.int .i64 many] 29 3
 obtain ⟨W2,hW2⟩:∃W2,(w.alloc (.cells (stkC g (.slice AU nU cU) (.slice AL nL cL)).toArray 29)).alloc (.cells [Value.int .i64 many].toArray 3)=W2:=⟨_,rfl⟩
 rw [hW2] at r0 r1 hb2 hs2
 have hW2':(w.alloc (.cells #[.int .i64 g.a,.int .i64 g.b,.int .i64 g.c,.int .i64 g.d,.slice AU nU cU,.slice AL nL cL] 29)).alloc (.cells #[.int .i64 many] 3)=W2:=hW2
 have q4:W2.cell? ⟨w.heap.size,4,none⟩=some (.slice AU nU cU):=r0.cell 4
 have q5:W2.cell? ⟨w.heap.size,5,none⟩=some (.slice AL nL cL):=r0.cell 5
 have m0:W2.cell? ⟨w.heap.size+1,0,none⟩=some (.int .i64 many):=r1.cell 0
 have R0:=hide r0
 have R1:=hide r1
 have HB2:=hide hb2
 have HU:=hide (hu.on hb2)
 have HL:=hide (h.on hb2)
 have HLL:=hide h.1
 have HUL:=hide hu.1
 have HFU:=hide hfu
 have HFL:=hide hfl
 have hsl:w.heap.size+2≤W2.heap.size:=by omega
 unfold stkC
 clear r0 r1 hb2 hW2 hs2 hu h hfu hfl
 by_cases k0:(nL:Int)≤3
 rotate_left
 ·have c0:decide ((nL:Int)≤3)=false:=decide_eq_false k0
  clear q4
  go_enter Tryz.func9,Tryz.ntmps9
  go_wp2_with fail
  go_ret
  exact ⟨false,rfl,HB2.out,fun h=>by cases h⟩
 have c0:decide ((nL:Int)≤3)=true:=decide_eq_true k0
 go_enter Tryz.func9,Tryz.ntmps9
 go_wp2_with fail
 clear hW2'
 refine (PBranch_any W2 HU.out (by omega) HFU.out).mono ?_
 rintro e w3 ⟨p,rfl,hb3,hp⟩
 have HP:=hide hp
 have HB3:=hide (HB2.out.trans (hb3.mono (by omega)))
 have s5:w3.cell? ⟨w.heap.size,5,none⟩=some (.slice AL nL cL):=(R0.out.on hb3).cell 5
 have M3:=hide ((R1.out.on hb3).cell 0)
 have HL3:=hide (HL.out.on hb3)
 have hs3:=hb3.size
 clear hp hb3 q4 q5 m0
 cases p
 ·clear s5
  go_wp2_with fail
  go_ret
  exact ⟨false,rfl,HB3.out,fun h=>by cases h⟩
 go_wp2_with fail
 refine (BrHas_any w3 HL3.out M3.out (by omega) (by omega) (by omega) HFL.out).mono ?_
 rintro e w4 ⟨p,rfl,hb4,hp4⟩
 have HP4:=hide hp4
 have HB4:=hide (HB3.out.trans (hb4.mono HB3.out.size))
 clear hp4 hb4 s5
 cases p
 ·go_wp2_with fail
  go_ret
  refine ⟨true,rfl,HB4.out,fun _=>?_⟩
  have h1:=HP.out (by first|rfl|trivial)
  have h2:=HP4.out (by first|rfl|trivial)
  exact ⟨⟨by rw [HLL.out];omega,fun ns hn=>⟨by have:=(h2 ns hn).1;omega,(h2 ns hn).2⟩⟩,⟨by rw [HUL.out];exact h1.1,h1.2⟩⟩
 ·go_wp2_with fail
  go_ret
  exact ⟨false,rfl,HB4.out,fun h=>by cases h⟩
end Go.Proofs.YtmhiohnkjpglfaaGreat

