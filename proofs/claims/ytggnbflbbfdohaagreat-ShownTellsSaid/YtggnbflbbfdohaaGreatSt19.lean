import Derived.Test.YtggnbflbbfdohaaGreatSt7
import Derived.Test.YtggnbflbbfdohaaGreatSt16
import Derived.BigQuiet
import Derived.Deep.QuietTactic
import Derived.StillTailTactics
import Derived.IntWalk
import Derived.Test.YtggnbflbbfdohaaGreatSt18
import Derived.ScopeJumps
import Derived.WalkMore
import Derived.Lib.CutLaws
import Derived.Test.YtggnbflbbfdohaaGreatSt8
import Derived.Lib.Join

namespace Go.Proofs.YtggnbflbbfdohaaGreat
open Go.RowKit Plain

set_option maxHeartbeats 800000 in
theorem RJoin_any {A:Option Addr} {m c B:Nat} {l:List (List UInt8)} (w:World) (ha:Rd st w B A m l) (hm:m≤2000000) (ht:totL l≤1152921504606846976) :
  Calls Tryz.prog 45 #[.slice A m c] w fun e w'=>e=.returned (st (joinS l))∧w=w':=by
 have HA:=hide ha;clear ha
 go_enter Tryz.func45,Tryz.ntmps45
 go_wp2_with fail
 go_loop [3,4] (fun s i=>∃(k:Nat) (t:List UInt8),k≤m∧i=.int .i64 k∧t=joinS (l.take k)∧s=.string ⟨t.toArray⟩) (fun _ i=>m - (intOf i).toNat)
 case atStart=>exact ⟨0,[47],Nat.zero_le _,rfl,rfl,rfl⟩
 case round =>
  obtain ⟨k,t,hk,rfl,hte,rfl⟩:=hrel;have hjl:=joinS_length (l.take k);have htt:=totL_take l k;rw [←hte] at hjl;have HT:=hide hte;clear hte
  by_cases hlt:k < m
  ·obtain ⟨b1,o1,rfl,_,hc1⟩:=HA.out.2 (by omega)
   have hl1:k < l.length:=by rw [HA.out.len];exact hlt
   have hx1:=hc1 k l[k] (List.getElem?_eq_getElem hl1);clear hc1;obtain ⟨x,hx⟩:∃x,x=l[k]:=⟨_,rfl⟩
   have hs:joinS (l.take (k+1))=(if k=0 then t else t++[47])++x:=by
    rw [List.take_succ_eq_append_getElem hl1,joinS_snoc,←HT.out,←hx,List.length_take,Nat.min_eq_left (by omega)]
   have hxl:x.length≤1152921504606846976:=by
    have e:=totL_take l (k+1)
    rw [List.take_succ_eq_append_getElem hl1,totL_snoc,←hx] at e;omega
   rw [←hx] at hx1;unfold st at hx1
   have htl:t.length≤1152921504606846977:=by omega
   clear hx htt hjl hl1
   by_cases hk0:k=0
   ·subst hk0
    rw [if_pos rfl] at hs;obtain ⟨z,hz⟩:∃z,t++x=z:=⟨_,rfl⟩;rw [hz] at hs
    have ad:=add_lists (P:=Tryz.prog) (x:=t) (y:=x) (by omega) hz
    have HS:=hide hs;clear hs hz;simp only [Nat.add_zero] at hx1
    go_wp2_with fail
    go_round
    case rel=>exact ⟨1,z,by omega,rfl,HS.out.symm,rfl⟩
    case measure=>simp [intOf];omega
   ·rw [if_neg hk0] at hs
    obtain ⟨y,hy⟩:∃y,t++[47]=y:=⟨_,rfl⟩
    have hyl:y.length=t.length+1:=by rw [←hy];simp
    rw [hy] at hs;obtain ⟨z,hz⟩:∃z,y++x=z:=⟨_,rfl⟩;rw [hz] at hs
    have ad:=add_lists (P:=Tryz.prog) (x:=t) (y:=[47]) (by simp;omega) hy
    have ad2:=add_lists (P:=Tryz.prog) (x:=y) (y:=x) (by omega) hz
    have HS:=hide hs
    have hk1:0 < k:=by omega
    clear hs hk0 hy hz hyl
    go_wp2_with fail
    go_round
    case rel=>exact ⟨k+1,z,by omega,by go_num,HS.out.symm,rfl⟩
    case measure=>simp [intOf];omega
  ·obtain rfl:k=m:=by omega
   have hte:=HT.out;rw [List.take_of_length_le (by rw [HA.out.len];exact Nat.le_refl _)] at hte;have HTE:=hide hte;clear hte hjl htt
   go_wp2
   go_ret
   rw [←HTE.out];exact ⟨rfl,rfl⟩

end Go.Proofs.YtggnbflbbfdohaaGreat

namespace Go.Proofs.YtggnbflbbfdohaaGreat
open Go.RowKit Plain
theorem ext_one {s:List UInt8} {j:Nat} (h:j < s.length):ByteArray.extract ⟨s.toArray⟩ j (j+1)=⟨[s[j]].toArray⟩:=by
 apply ByteArray.ext
 simp only [ByteArray.data_extract]
 apply Array.toList_inj.1
 rw [Array.toList_extract];simp only [List.extract_eq_take_drop,Nat.add_sub_cancel_left,List.toList_toArray];rw [List.drop_eq_getElem_cons h]
 rfl

set_option maxRecDepth 100000 in
set_option maxHeartbeats 1600000 in
theorem Rparts_any {s:List UInt8} (w:World) (hm:s.length≤1100000) :
  Calls Tryz.prog 128 #[st s] w (ORet st w 9 (partsS s).length (partsS s)):=by
 show Calls _ _ #[.string ⟨s.toArray⟩] _ _
 go_enter Tryz.func128,Tryz.ntmps128
 go_wp2_with fail
 go_loopw [3,4] (fun v i wr=>∃(j p:Nat) (o:List (List UInt8)),1≤j∧(j≤s.length∨j=1)∧i=.int .i64 j∧o=partsTo s j∧(∃A c,v=.slice A p c∧Ow st wr w.heap.size 9 A p c o)∧Below w.heap.size w wr) (fun _ i _=>s.length - (intOf i).toNat)
 case atStart=>exact ⟨1,1,[[]],by omega,.inr rfl,rfl,(partsTo_one s).symm,⟨_,_,rfl,Ow.lit w _ (cs:=[.string ⟨#[]⟩]) rfl rfl (by omega)⟩,below_new (below_self w) _⟩
 case round =>
  obtain ⟨j,p,o,hj1,hj2,rfl,hoe,⟨A1,c1,rfl,hown⟩,hbel⟩:=hrel;obtain ⟨hp1,hp2,hp3⟩:=partsTo_len s j;rw [←hoe] at hp1 hp2 hp3;have hop:=hown.len;rw [hop] at hp1 hp2;have HO:=hide hown;have HB:=hide hbel
  by_cases hlt:j < s.length
  ·obtain ⟨x,hx⟩:∃x,x=s[j]:=⟨_,rfl⟩
   have hjs:j < ByteArray.size ⟨s.toArray⟩:=hlt;have hbj:(⟨s.toArray⟩:ByteArray)[j]'hjs=x:=hx.symm;have hs:=partsTo_succ hj1 hlt;rw [←hoe,←hx] at hs
   by_cases hc:x=47
   ·have hs2:partsTo s (j+1)=o++[[]]:=by rw [hs];simp [stepP,hc]
    have HS:=hide hs2
    have htest:((x.toNat:Int)==47)=true:=by rw [hc];rfl
    clear hs hs2 hown hbel hoe hp3 hj2 hop hx hc
    go_wp2_with (at_builtin;refine wpList_append_Rd _ rfl (.tmp 16) (.tmp 17) 41 rfl w.heap.size 9 _ 16 Tryz.underlying41 info_st rfl st_one _ p _ o rfl (HO.out.alloc _) _ _ 1 1 _ rfl (Rd.one _ _ rfl) (p+1) rfl (by omega) (by omega) (by have:=HB.out.size;simp;omega) ?_;intro A2 c2 w1 hown1 hbel1;have HO1:=hide hown1;have HB1:=hide ((HB.out.alloc HB.out.size _).trans hbel1);clear hown1 hbel1)
    go_roundw
    case rel=>exact ⟨j+1,p+1,_,by omega,by omega,by go_num,HS.out.symm,⟨_,_,rfl,HO1.out⟩,HB1.out⟩
    case measure=>simp [intOf];omega
   ·obtain ⟨g,rfl,hg,hgl,hcg,hfz⟩:=hown.at_ (by omega)
    obtain ⟨y,hy⟩:∃y,y=o.getD (p - 1) []:=⟨_,rfl⟩;have hcell:=hcg (p - 1) y (by rw [hy];simp only [List.getD];rw [List.getElem?_eq_getElem (by omega)];rfl)
    have hyl:y.length≤j:=by
     apply hp3
     rw [hy];simp only [List.getD];rw [List.getElem?_eq_getElem (by omega)];exact List.getElem_mem (by omega)
    obtain ⟨z,hz⟩:∃z,y++[x]=z:=⟨_,rfl⟩
    have hs2:partsTo s (j+1)=o.set (p - 1) z:=by rw [hs];simp only [stepP,if_neg hc,hop,←hy,hz]
    have hex:=ext_one hlt;rw [←hx] at hex
    have ad:=add_lists (P:=Tryz.prog) (x:=y) (y:=[x]) (by simp;omega) hz
    have hst:=hown.drew.set_ (p:=p - 1) (u:=st z) (y:=z) rfl;have hbs:=hbel.drew.setCell (p:=⟨g,p - 1,none⟩) hg (st z);have hf:=hfz (p - 1)
    have htest:((x.toNat:Int)==47)=false:=by
     simp only [beq_eq_false_iff_ne,ne_eq];intro e
     apply hc
     apply UInt8.toNat_inj.1
     have:x.toNat=47:=by omega
     rw [this]
     rfl
    have HS:=hide hs2;have HST:=hide hst;have HBS:=hide hbs;unfold st at hcell;clear hs hs2 hown hbel hoe hp3 hj2 hop hx hc hy hz hcg hfz hst hbs;have hw1:IntKind.i64.wrap ((p:Int) - 1)=(p:Int) - 1:=IntWalk.i64_in _ (by omega)
    have hw2:((p:Int) - 1).toNat=p - 1:=by omega
    have hw3:(0:Int)≤(p:Int) - 1:=by omega
    have hw4:(p:Int) - 1 < (p:Int):=by omega
    have hw5:IntKind.i64.wrap ((j:Int)+1)=(j:Int)+1:=IntWalk.i64_in _ (by omega)
    have hw6:((j:Int)+1).toNat=j+1:=by omega
    go_wp2
    have hw7:(1:Int)≤(p:Int):=by omega
    have hw8:(0:Int)≤(j:Int)+1:=by omega
    have hw9:(j:Int)+1≤(s.length:Int):=by omega
    have hw10:(j:Int)≤(j:Int)+1:=by omega
    go_still_tail 17,(by kernel_rfl)
    change wpList _ _ _ _ _ wr.drew
    clear hw1 hw2 hw3 hw4 hw5 hw6 hw7 hw8 hw9 hw10 ad hex hbj
    go_wp2
    go_roundw
    case rel=>exact ⟨j+1,p,_,by omega,by omega,by go_num,HS.out.symm,⟨_,_,rfl,HST.out⟩,HBS.out⟩
    case measure=>simp [intOf];omega
  ·have hpe:o=partsS s:=by rw [hoe];exact partsTo_all (by omega)
   have HPE:=hide hpe;have HOP:=hide hop;clear hown hbel hoe hp3 hop hpe
   go_wp2
   go_ret
   rw [←HPE.out,HOP.out];exact HO.out.ret HB.out
end Go.Proofs.YtggnbflbbfdohaaGreat

namespace Go.Proofs.YtggnbflbbfdohaaGreat
open Go.RowKit Plain

def LRet (w:World) (e:Nat) (l:List (List UInt8)) (b:Bool) (x:Ending) (w':World):Prop :=
 ∃A n c,x=.returned (.tuple #[.slice A n c,.bool b])∧Ow st w' w.heap.size e A n c l∧Below w.heap.size w w'
theorem LRet.nil {w w':World} {e:Nat} {b:Bool} (h:Below w.heap.size w w'):LRet w e [] b (.returned (.tuple #[.slice none 0 0,.bool b])) w':=⟨none,0,0,rfl,Ow.nil_ _ _ _ _,h⟩

set_option maxHeartbeats 800000 in
theorem RSplit_one (w:World):Calls Tryz.prog 94 #[st [47]] w (LRet w 9 [] true):=by
 show Calls _ _ #[.string ⟨#[47]⟩] _ _
 go_enter Tryz.func94,Tryz.ntmps94
 go_wp2
 go_ret2
 exact LRet.nil (below_self w)

set_option maxHeartbeats 800000 in
theorem RSplit_no {s:List UInt8} (w:World) (h1:s≠[47]) (h:headB s=false):Calls Tryz.prog 94 #[st s] w (LRet w 9 [] false):=by
 show Calls _ _ #[.string ⟨s.toArray⟩] _ _
 have hb:(s==[47])=false:=by simpa using h1
 cases s with
 | nil =>
  clear h h1
  go_enter Tryz.func94,Tryz.ntmps94
  go_wp2
  go_ret2
  exact LRet.nil (below_self w)
 | cons c r =>
  have hc:c≠47:=by simpa [headB] using h
  have hj:0 < ByteArray.size ⟨(c::r).toArray⟩:=by simp [ByteArray.size]
  have hbj:(⟨(c::r).toArray⟩:ByteArray)[0]'hj=c:=rfl
  have htest:((c.toNat:Int) != 47)=true:=by
   simp only [bne_iff_ne,ne_eq];intro e
   apply hc
   apply UInt8.toNat_inj.1
   have:c.toNat=47:=by omega
   rw [this]
   rfl
  clear h h1 hc
  go_enter Tryz.func94,Tryz.ntmps94
  go_wp2
  go_ret2
  exact LRet.nil (below_self w)

theorem headB_get {s:List UInt8} (h:headB s=true):∃hj:0 < ByteArray.size ⟨s.toArray⟩,(⟨s.toArray⟩:ByteArray)[0]'hj=47:=by
 cases s with
 | nil=>simp [headB] at h
 | cons c r =>
  have hc:c=47:=by simpa [headB] using h
  exact ⟨by simp [ByteArray.size],hc⟩
theorem lall_take_succ {l:List (List UInt8)} {p:List UInt8→Bool} {k:Nat} (h:k < l.length):(l.take (k+1)).all p=((l.take k).all p&&p l[k]):=by
 rw [List.take_succ_eq_append_getElem h,List.all_append];simp
theorem lall_false {l:List (List UInt8)} {p:List UInt8→Bool} {k:Nat} (h:k < l.length) (hp:p l[k]=false):l.all p=false:=by
 rw [List.all_eq_false];exact ⟨l[k],List.getElem_mem h,by simp [hp]⟩

def orNil (b:Bool) (l:List (List UInt8)):List (List UInt8):=if b=true then l else []

set_option maxHeartbeats 1600000 in
theorem RSplit_in {s:List UInt8} (w:World) (hm:s.length≤1100000) (h1:s≠[47]) (h:headB s=true) :
  Calls Tryz.prog 94 #[st s] w (LRet w 9 (orNil ((partsS s).all nameB) (partsS s)) ((partsS s).all nameB)):=by
 show Calls _ _ #[.string ⟨s.toArray⟩] _ _
 obtain ⟨r,hr⟩:∃r,(partsS s).all nameB=r:=⟨_,rfl⟩;rw [hr];have HR:=hide hr
 have hb:(s==[47])=false:=by simpa using h1
 obtain ⟨hj,hbj⟩:=headB_get h
 have hl0:0 < s.length:=by cases s with|nil=>simp [headB] at h|cons c r=>simp
 have hl1:((s.length:Int)==0)=false:=by rw [beq_eq_false_iff_ne];omega
 obtain ⟨hpl1,hpl2⟩:=partsS_len s;have HPL:=hide hpl2;clear hr h1 h hpl2;have HJ1:=hide hpl1;clear hpl1
 go_enter Tryz.func94,Tryz.ntmps94
 go_wp2_with fail
 have hpl1:=HJ1.out;refine (Rparts_any _ hm).mono ?_
 rintro e w1 ⟨A1,c1,rfl,hown,hbel⟩
 obtain ⟨P,hP⟩:∃P,partsS s=P:=⟨_,rfl⟩;rw [hP] at hown hpl1;have HO:=hide hown;have HB:=hide hbel;have HP:=hide hP;rw [hP];clear hown hbel hP hb hbj hl1
 go_wp2_with fail
 go_loop [5] (fun i=>∃k:Nat,k≤P.length∧i=.int .i64 k∧((P.take k).all nameB)=true) (fun i=>P.length - (intOf i).toNat)
 case atStart=>exact ⟨0,Nat.zero_le _,rfl,rfl⟩
 case round =>
  obtain ⟨k,hk,rfl,hall⟩:=hrel;have HALL:=hide hall;clear hall
  by_cases hlt:k < P.length
  ·obtain ⟨g,rfl,hg,hgl,hcg,hfz⟩:=HO.out.at_ (by omega)
   obtain ⟨x,hx⟩:∃x,x=P[k]:=⟨_,rfl⟩;have hcell:=hcg k x (by rw [hx];exact List.getElem?_eq_getElem hlt);have hxl:x.length≤s.length:=HPL.out x (by rw [HP.out,hx];exact List.getElem_mem hlt);have HX:=hide hx;clear hcg hfz hx
   cases hb2:nameB x with
   | true =>
    have HB2:=hide hb2;clear hb2;unfold st at hcell
    go_wp2_with fail
    refine (RNRight_b HB2.out _ (by omega)).mono ?_
    rintro e w' ⟨rfl,rfl⟩
    go_wp2_with fail
    go_round
    case rel=>exact ⟨k+1,by omega,by go_num,by rw [lall_take_succ hlt,HALL.out,←HX.out,HB2.out];rfl⟩
    case measure=>simp [intOf];omega
   | false =>
    have hrf:r=false:=by rw [←HR.out,HP.out];exact lall_false hlt (by rw [←HX.out];exact hb2)
    have HRF:=hide hrf;have HB2:=hide hb2;clear hb2 hrf;unfold st at hcell
    go_wp2_with fail
    refine (RNRight_b HB2.out _ (by omega)).mono ?_
    rintro e w' ⟨rfl,rfl⟩
    go_wp2_with fail
    go_ret2
    rw [HRF.out];exact LRet.nil HB.out
  ·have hrt:r=true:=by
    rw [←HR.out,HP.out]
    have:=HALL.out
    rwa [List.take_of_length_le (by omega)] at this
   have HRT:=hide hrt;clear hrt
   go_wp2
   go_ret2
   have ho:=HO.out;rw [HRT.out];exact ⟨_,_,_,rfl,by rw [show orNil true (partsS s)=P from HP.out];exact ho,HB.out⟩

theorem RSplit_any {s:List UInt8} (w:World) (hm:s.length≤1100000):Calls Tryz.prog 94 #[st s] w (LRet w 9 (splitS s) (splitB s)):=by
 by_cases h1:s=[47]
 ·subst h1
  rw [show splitS [47]=[] from rfl,show splitB [47]=true from rfl];exact RSplit_one w
 cases h:headB s with
 | false =>
  rw [show splitS s=[] from by simp [splitS,h1,h],show splitB s=false from by simp [splitB,h1,h]];exact RSplit_no w h1 h
 | true =>
  rw [show splitS s=orNil ((partsS s).all nameB) (partsS s) from by unfold splitS;rw [if_neg h1,h];rfl,show splitB s=(partsS s).all nameB from by unfold splitB;rw [h,show (s==[47])=false from by simpa using h1];rfl];exact RSplit_in w hm h1 h
end Go.Proofs.YtggnbflbbfdohaaGreat

namespace Go.Proofs.YtggnbflbbfdohaaGreat
open Go.RowKit Plain

def partsF (r:List UInt8):List (List UInt8):=r.foldl stepP [[]]
theorem stepP_pre (a b:List (List UInt8)) (c:UInt8) (hb:b≠[]):stepP (a++b) c=a++stepP b c:=by
 have h1:0 < b.length:=List.length_pos_iff.2 hb;unfold stepP
 split
 ·rw [List.append_assoc]
 ·have e1:(a++b).length - 1=a.length+(b.length - 1):=by rw [List.length_append];omega
  rw [e1,List.set_append_right _ _ (by omega),Nat.add_sub_cancel_left]
  congr 2
  simp only [List.getD];rw [List.getElem?_append_right (by omega),Nat.add_sub_cancel_left]
theorem fold_pre (q:List UInt8):∀(a b:List (List UInt8)),b≠[]→q.foldl stepP (a++b)=a++q.foldl stepP b:=by
 induction q with
 | nil=>intro a b _;rfl
 | cons c r ih =>
  intro a b hb;rw [List.foldl_cons,List.foldl_cons,stepP_pre a b c hb];refine ih a _ ?_;intro e
  have:=stepP_length b c
  rw [e] at this;have h1:0 < b.length:=List.length_pos_iff.2 hb
  split at this <;> simp at this
  omega
theorem partsF_one {p:List UInt8} (h:∀c∈p,c≠47):partsF p=[p]:=fold_noslash p h [] []
theorem partsF_more {p q:List UInt8} (h:∀c∈p,c≠47):partsF (p++47::q)=p::partsF q:=by
 have e:=fold_noslash p h [] []
 simp only [List.nil_append] at e;unfold partsF;rw [List.foldl_append,e,List.foldl_cons]
 show q.foldl stepP ([p]++[[]])=_
 rw [fold_pre q [p] [[]] (by simp)]
 rfl
theorem cut_at (r:List UInt8):(∀c∈r,c≠47)∨∃p q,(∀c∈p,c≠47)∧r=p++47::q:=by
 induction r with
 | nil=>exact .inl (by simp)
 | cons x r ih =>
  by_cases hx:x=47
  ·exact .inr ⟨[],r,by simp,by rw [hx];rfl⟩
  ·rcases ih with h|⟨p,q,h,rfl⟩
   ·refine .inl fun c hc=>?_
    rcases List.mem_cons.1 hc with e|e
    ·rw [e];exact hx
    ·exact h c e
   ·refine .inr ⟨x::p,q,fun c hc=>?_,rfl⟩
    rcases List.mem_cons.1 hc with e|e
    ·rw [e];exact hx
    ·exact h c e
def moreL (b:Bool) (p q:List UInt8):List (List UInt8):=if b then p::partsF q else [p]
def moreN (b:Bool) (p q:List UInt8):Nat:=if b then p.length+q.length+1 else p.length
theorem Cut_any (r:List UInt8) (hr:r.length≤140737488355328):∃p q b,(∀w:World,Calls Tryz.prog 152 #[.string ⟨r.toArray⟩,.string ⟨#[47]⟩] w (CutRet w p q b))∧partsF r=moreL b p q∧r.length=moreN b p q:=by
 rcases cut_at r with h|⟨p,q,h,rfl⟩
 ·exact ⟨r,[],false,fun w=>Cut_no h w,partsF_one h,rfl⟩
 ·refine ⟨p,q,true,fun w=>Cut_yes h w hr,partsF_more h,?_⟩
  show _=p.length+q.length+1
  rw [List.length_append,List.length_cons];omega
theorem head_cut {s:List UInt8}:(headB s=true∧∃r,s=47::r)∨(headB s=false∧Lib.hasPrefix s [47]=false∧Lib.trimPrefix s [47]=s):=by
 cases s with
 | nil=>exact .inr ⟨rfl,rfl,rfl⟩
 | cons c r =>
  by_cases hc:c=47
  ·subst hc;exact .inl ⟨rfl,r,rfl⟩
  ·refine .inr ?_
   have h1:headB (c::r)=false:=by simp [headB,hc]
   have h2:Lib.hasPrefix (c::r) [47]=false:=by
    have:(47==c)=false:=by simpa using fun e=>hc (Eq.symm e)
    simp [Lib.hasPrefix,List.isPrefixOf,this]
   exact ⟨h1,h2,by unfold Lib.trimPrefix;rw [h2];rfl⟩
theorem trim_cons (r:List UInt8):Lib.trimPrefix (47::r) [47]=r∧Lib.hasPrefix (47::r) [47]=true:=by
 have h2:Lib.hasPrefix (47::r) [47]=true:=by simp [Lib.hasPrefix,List.isPrefixOf]
 exact ⟨by unfold Lib.trimPrefix;rw [h2];rfl,h2⟩
def namesPt (s:List UInt8):List (List UInt8):=if headB s=true then (leftS (partsS s)).getD [] else []
theorem NRet.yes {s:List UInt8} {w w':World} {o:List (List UInt8)} {A:Option Addr} {n c:Nat} (hh:headB s=true) (hl:leftS (partsS s)=some o) (hown:Ow st w' w.heap.size 9 A n c o) (hb:Below w.heap.size w w') :
  LRet w 9 (namesPt s) (cleanB s) (.returned (.tuple #[.slice A n c,.bool true])) w':=by
 have e1:namesPt s=o:=by simp [namesPt,hh,hl]
 have e2:cleanB s=true:=by simp [cleanB,hh,hl]
 rw [e1,e2];exact ⟨A,n,c,rfl,hown,hb⟩
theorem NRet.no {s:List UInt8} {w w':World} (hc:cleanB s=false) (hb:Below w.heap.size w w'):LRet w 9 (namesPt s) (cleanB s) (.returned (.tuple #[.slice none 0 0,.bool false])) w':=by
 have e1:namesPt s=[]:=by
  unfold cleanB at hc;unfold namesPt
  by_cases hh:headB s=true
  ·rw [if_pos hh]
   rw [hh] at hc
   cases hl:leftS (partsS s) with
   | none=>rfl
   | some o=>rw [hl] at hc;cases hc
  ·rw [if_neg hh]
 rw [e1,hc];exact LRet.nil hb
def NInv (s:List UInt8) (w w':World) (r:List UInt8) (o:List (List UInt8)) (A:Option Addr) (n c:Nat):Prop :=
 Ow st w' w.heap.size 9 A n c o∧Below w.heap.size w w'∧(partsF r).foldl stepC (some o)=leftS (partsS s)∧o.length+r.length≤s.length
def strLen:Value→Nat|.string b=>b.size|_=>0
theorem fold_none (l:List (List UInt8)):l.foldl stepC none=none:=by
 induction l with
 | nil=>rfl
 | cons y r ih=>rw [List.foldl_cons];exact ih
theorem more_stop {b:Bool} {p q:List UInt8} {o:List (List UInt8)} (h:stepC (some o) p=none):(moreL b p q).foldl stepC (some o)=none:=by
 unfold moreL
 split
 ·rw [List.foldl_cons,h,fold_none]
 ·rw [List.foldl_cons,h];rfl
theorem wp_scope_once {P : Program} {a : Act} {w : World} {Q : Exit → Act → World → Prop} {c rest : Code} (l : Nat) (J : Act → World → Prop) (μ : Act → World → Nat) (hf : findLabel c l = some (Code.skip.seq rest))
  (pass:∀a w,J a w→rest.wp P (Exit.jump l (fun a' w'=>J a' w'∧μ a' w' < μ a w) Q) a w)
  (first:(∀a w,J a w→rest.wp P (Exit.jump l J Q) a w)→c.wp P (Exit.jump l J Q) a w):(Code.scope c).wp P Q a w:=by
 refine wp_scope_jumps l J μ hf (first fun a w h=>Code.wp_mono (fun e a' w' hq=>?_) (pass a w h)) (fun a w h=>wp_seq (wp_skip (pass a w h)))
 cases e with
 | goto l'=>exact ⟨hq.1,hq.2.1⟩
 | normal=>exact hq
 | exit id=>exact hq
 | ret=>exact hq
 | panic ch=>exact hq
 | outgrown=>exact hq

set_option maxHeartbeats 4000000 in
set_option maxRecDepth 100000 in
theorem names_any {s:List UInt8} (w:World) (hs:s.length≤1100000) :
  Calls Tryz.prog 127 #[st s] w (LRet w 9 (namesPt s) (cleanB s)):=by
 unfold st
 rcases head_cut (s:=s) with ⟨hh,r0,hr0⟩|⟨hh,hp,ht⟩
 case inr =>
  have hcp:∀w:World,Calls Tryz.prog 151 #[.string ⟨s.toArray⟩,.string ⟨#[47]⟩] w fun e w'=>e=.returned (.tuple #[.string ⟨s.toArray⟩,.bool false])∧w'=w:=by
   intro w;have h:Calls Tryz.prog 151 #[.string ⟨s.toArray⟩,.string ⟨#[47]⟩] w fun e w'=>e=.returned (.tuple #[.string ⟨(Lib.trimPrefix s [47]).toArray⟩,.bool (Lib.hasPrefix s [47])])∧w'=w:=Tryz.strings_CutPrefix ⟨s.toArray⟩ ⟨#[47]⟩ w
   rwa [ht,hp] at h
  have HCP:=hide hcp
  have hcl:cleanB s=false:=by simp [cleanB,hh]
  have HCL:=hide hcl;clear hcp hp ht hh hcl
  go_enter Tryz.func127,Tryz.ntmps127
  go_wp2_with fail
  go_step3
  go_wp2_with fail
  refine (HCP.out _).mono ?_
  rintro e w' ⟨rfl,rfl⟩
  go_wp2_with fail
  (first|go_ret2|(simp only [Exit.jump];go_ret2)|(rw [Exit.noGoto_ret];go_ret2))
  exact NRet.no HCL.out (below_self _)
 have hcp:∀w:World,Calls Tryz.prog 151 #[.string ⟨s.toArray⟩,.string ⟨#[47]⟩] w fun e w'=>e=.returned (.tuple #[.string ⟨r0.toArray⟩,.bool true])∧w'=w:=by
  intro w;have h:Calls Tryz.prog 151 #[.string ⟨s.toArray⟩,.string ⟨#[47]⟩] w fun e w'=>e=.returned (.tuple #[.string ⟨(Lib.trimPrefix s [47]).toArray⟩,.bool (Lib.hasPrefix s [47])])∧w'=w:=Tryz.strings_CutPrefix ⟨s.toArray⟩ ⟨#[47]⟩ w
  rwa [hr0,(trim_cons r0).1,(trim_cons r0).2,←hr0] at h
 have HCP:=hide hcp;have HH:=hide hh
 have hpf:partsF r0=partsS s:=by rw [hr0];rfl
 have HPF0:=hide hpf
 have hl0:r0.length≤s.length:=by rw [hr0];simp
 have HL0:=hide hl0;have HS:=hide hs;clear hcp hh hr0 hpf hl0 hs
 go_enter Tryz.func127,Tryz.ntmps127
 go_wp2_with fail
 refine wp_scope_once 0 (fun a' w'=>∃(r:List UInt8) (o:List (List UInt8)) (A:Option Addr) (n c:Nat) (u0 u1 u2 u3 u5 u7 u8 u9 u10 u11 u12 u13 u14 u15 u16 u17 u18 u19 u20 u21 u22 u23 u24 u25 u26 u27 u28 u29 u30 u31 u32 u33 u34 u35 u36 u37 u38 u39 u40 u41 u42 u43 u44 u45 u46 u47 u48 u49:Value),a'={tmps:=#[u0,u1,u2,u3,.string ⟨r.toArray⟩,u5,.slice A n c,u7,u8,u9,u10,u11,u12,u13,u14,u15,u16,u17,u18,u19,u20,u21,u22,u23,u24,u25,u26,u27,u28,u29,u30,u31,u32,u33,u34,u35,u36,u37,u38,u39,u40,u41,u42,u43,u44,u45,u46,u47,u48,u49],defers:=[]}∧NInv s w w' r o A n c) (fun a' _=>strLen (a'.tmps.getD 4 undef)) rfl ?_ ?_
 case _ =>
  rintro a' w' ⟨r,o,A,n,c,u0,u1,u2,u3,u5,u7,u8,u9,u10,u11,u12,u13,u14,u15,u16,u17,u18,u19,u20,u21,u22,u23,u24,u25,u26,u27,u28,u29,u30,u31,u32,u33,u34,u35,u36,u37,u38,u39,u40,u41,u42,u43,u44,u45,u46,u47,u48,u49,rfl,hown,hbel,hfold,hlen⟩
  have hon:=hown.len;obtain ⟨p,q,b,hcut,hpf,hlr⟩:=Cut_any r (by have:=HS.out;omega);have HCUT:=hide hcut;have HO:=hide hown;have HB:=hide hbel;have HF:=hide hfold;have HPF:=hide hpf;have HLR:=hide hlr;have HLEN:=hide hlen
  have hn:n≤1100000:=by have:=HS.out;omega
  have HON:=hide hon;clear hcut hown hbel hfold hpf hlr hlen hon
  by_cases hp0:p=[]
  ·subst hp0
   have hst:stepC (some o) []=some o:=by simp [stepC]
   have HST:=hide hst;clear hst
   go_wp2_with fail
   refine (HCUT.out _).mono ?_
   rintro e w1 ⟨rfl,nd,rfl⟩
   unfold st
   cases b with
   | true =>
    go_wp2_with fail
    go_step3
    refine ⟨rfl,⟨q,o,A,n,c,_,_,_,_,_,_,_,_,_,_,_,_,_,_,_,_,_,_,_,_,_,_,_,_,_,_,_,_,_,_,_,_,_,_,_,_,_,_,_,_,_,_,_,_,_,_,_,_,rfl,(HO.out.drewN nd),(below_drewN HB.out nd),?_,?_⟩,?_⟩
    ·have e:=HF.out
     rw [HPF.out] at e;simp only [moreL,if_true] at e;rw [List.foldl_cons,HST.out] at e;exact e
    ·have h1:=HLEN.out
     have h2:=HLR.out;simp only [moreN,if_true] at h2;omega
    ·have h2:=HLR.out
     simp only [moreN,if_true] at h2;simp only [strLen,ByteArray.size,Array.getD_eq_getD_getElem?];simp;omega
   | false =>
    have hl:leftS (partsS s)=some o:=by
     have e:=HF.out
     rw [HPF.out] at e;simp only [moreL,Bool.false_eq_true,if_false] at e;rw [List.foldl_cons,HST.out] at e;exact e.symm
    have HL:=hide hl;clear hl
    go_wp2_with fail
    (first|go_ret2|(simp only [Exit.jump];go_ret2)|(rw [Exit.noGoto_ret];go_ret2))
    exact NRet.yes HH.out HL.out (HO.out.drewN nd) (below_drewN HB.out nd)
  by_cases hp1:p=[46]
  ·subst hp1
   have hst:stepC (some o) [46]=some o:=by simp [stepC]
   have HST:=hide hst;clear hst
   go_wp2_with fail
   refine (HCUT.out _).mono ?_
   rintro e w1 ⟨rfl,nd,rfl⟩
   unfold st
   cases b with
   | true =>
    go_wp2_with fail
    go_step3
    refine ⟨rfl,⟨q,o,A,n,c,_,_,_,_,_,_,_,_,_,_,_,_,_,_,_,_,_,_,_,_,_,_,_,_,_,_,_,_,_,_,_,_,_,_,_,_,_,_,_,_,_,_,_,_,_,_,_,_,rfl,(HO.out.drewN nd),(below_drewN HB.out nd),?_,?_⟩,?_⟩
    ·have e:=HF.out
     rw [HPF.out] at e;simp only [moreL,if_true] at e;rw [List.foldl_cons,HST.out] at e;exact e
    ·have h1:=HLEN.out
     have h2:=HLR.out;simp only [moreN,if_true] at h2;omega
    ·have h2:=HLR.out
     simp only [moreN,if_true] at h2;simp only [strLen,ByteArray.size,Array.getD_eq_getD_getElem?];simp;omega
   | false =>
    have hl:leftS (partsS s)=some o:=by
     have e:=HF.out
     rw [HPF.out] at e;simp only [moreL,Bool.false_eq_true,if_false] at e;rw [List.foldl_cons,HST.out] at e;exact e.symm
    have HL:=hide hl;clear hl
    go_wp2_with fail
    (first|go_ret2|(simp only [Exit.jump];go_ret2)|(rw [Exit.noGoto_ret];go_ret2))
    exact NRet.yes HH.out HL.out (HO.out.drewN nd) (below_drewN HB.out nd)
  have d0:(p==[])=false:=by simpa using hp0
  have d1:(p==[46])=false:=by simpa using hp1
  have hx0:¬(p=[]∨p=[46]):=by rintro (h|h) <;> contradiction
  by_cases hp2:p=[46,46]
  ·subst hp2
   by_cases hn0:n=0
   ·subst hn0
    have ho0:o=[]:=List.eq_nil_of_length_eq_zero HON.out
    have hcl:cleanB s=false:=by
     have e:=HF.out
     rw [HPF.out,more_stop (by rw [ho0];rfl)] at e;unfold cleanB;rw [←e];simp
    have HCL:=hide hcl;clear ho0 hcl hx0 d0 d1 hp0 hp1
    go_wp2_with fail
    refine (HCUT.out _).mono ?_
    rintro e w1 ⟨rfl,nd,rfl⟩
    unfold st
    go_wp2_with fail
    refine (NRight_b (l:=[46,46]) (b:=false) (by decide +kernel) _ (by decide)).mono ?_
    rintro e w2 ⟨rfl,hbel⟩
    have HB2:=hide (below_step (below_drewN HB.out nd) hbel);clear hbel
    go_wp2_with fail
    (first|go_ret2|(simp only [Exit.jump];go_ret2)|(rw [Exit.noGoto_ret];go_ret2))
    exact NRet.no HCL.out HB2.out
   ·obtain ⟨g2,rfl,hg2,hgl2,_,_⟩:=HO.out.at_ (by omega)
    have hcp:=HO.out.cap
    have hst:stepC (some o) [46,46]=some o.dropLast:=by
     have hne:o≠[]:=by intro e;have:=HON.out;rw [e] at this;simp at this;omega
     simp [stepC,hne]
    have hcut:=HO.out.cut (i:=n - 1) (by omega) (by simp)
    have hdl:o.take (n - 1)=o.dropLast:=by rw [List.dropLast_eq_take,HON.out]
    rw [hdl] at hcut;have HST:=hide hst;have HC:=hide hcut;have HDL:=hide (show o.dropLast.length=n - 1 by rw [List.length_dropLast,HON.out])
    have hp1':1≤n:=by omega
    have hn1:0 < n:=by omega
    clear hst hcut hdl hx0 d0 d1 hp0 hp1 hn0
    go_wp2_with fail
    refine (HCUT.out _).mono ?_
    rintro e w1 ⟨rfl,nd,rfl⟩
    unfold st
    cases b with
    | true =>
     go_wp2_with fail
     go_step3
     refine ⟨rfl,⟨q,o.dropLast,_,(n - 1),c,_,_,_,_,_,_,_,_,_,_,_,_,_,_,_,_,_,_,_,_,_,_,_,_,_,_,_,_,_,_,_,_,_,_,_,_,_,_,_,_,_,_,_,_,_,_,_,_,rfl,(HC.out.drewN nd),(below_drewN HB.out nd),?_,?_⟩,?_⟩
     ·have e:=HF.out
      rw [HPF.out] at e;simp only [moreL,if_true] at e;rw [List.foldl_cons,HST.out] at e;exact e
     ·have h1:=HLEN.out
      have h2:=HLR.out;simp only [moreN,if_true] at h2
      (have h3:=HDL.out;have h4:=HON.out;omega)
     ·have h2:=HLR.out
      simp only [moreN,if_true] at h2;simp only [strLen,ByteArray.size,Array.getD_eq_getD_getElem?];simp;omega
    | false =>
     have hl:leftS (partsS s)=some o.dropLast:=by
      have e:=HF.out
      rw [HPF.out] at e;simp only [moreL,Bool.false_eq_true,if_false] at e;rw [List.foldl_cons,HST.out] at e;exact e.symm
     have HL:=hide hl;clear hl
     go_wp2_with fail
     (first|go_ret2|(simp only [Exit.jump];go_ret2)|(rw [Exit.noGoto_ret];go_ret2))
     exact NRet.yes HH.out HL.out (HC.out.drewN nd) (below_drewN HB.out nd)
  have d2:(p==[46,46])=false:=by simpa using hp2
  have hpl:p.length≤140737488355328:=by
   have h1:=HLEN.out;have h2:=HLR.out;have h3:=HS.out;unfold moreN at h2
   split at h2 <;> omega
  cases hb2:nameB p with
  | false =>
   have hst:stepC (some o) p=none:=by simp only [stepC,if_neg hx0,if_neg hp2,hb2];rfl
   have hcl:cleanB s=false:=by
    have e:=HF.out
    rw [HPF.out,more_stop hst] at e;unfold cleanB;rw [←e];simp
   have HCL:=hide hcl;have HB2:=hide hb2;clear hst hcl hb2 hx0 hp0 hp1 hp2
   go_wp2_with fail
   refine (HCUT.out _).mono ?_
   rintro e w1 ⟨rfl,nd,rfl⟩
   unfold st
   go_wp2_with fail
   refine (NRight_b HB2.out _ hpl).mono ?_
   rintro e w2 ⟨rfl,hbel⟩
   have HB3:=hide (below_step (below_drewN HB.out nd) hbel);clear hbel
   go_wp2_with fail
   (first|go_ret2|(simp only [Exit.jump];go_ret2)|(rw [Exit.noGoto_ret];go_ret2))
   exact NRet.no HCL.out HB3.out
  | true =>
   have hst:stepC (some o) p=some (o++[p]):=by simp only [stepC,if_neg hx0,if_neg hp2,hb2,if_true]
   have HST:=hide hst;have HB2:=hide hb2;clear hst hb2 hx0 hp0 hp1 hp2
   go_wp2_with fail
   refine (HCUT.out _).mono ?_
   rintro e w1 ⟨rfl,nd,rfl⟩
   unfold st
   go_wp2_with fail
   refine (NRight_b HB2.out _ hpl).mono ?_
   rintro e w2 ⟨rfl,hbel⟩
   have HB3:=hide (below_step (below_drewN HB.out nd) hbel);have HO3:=hide ((HO.out.drewN nd).below (hbel.mono (by simp)));clear hbel
   cases b with
   | true =>
    go_wp2_with (at_builtin;refine wpList_append_Rd _ rfl (.tmp 44) (.tmp 46) 41 rfl w.heap.size 9 _ 16 Tryz.underlying41 info_st rfl st_one _ n _ o rfl (HO3.out.alloc _) _ _ 1 1 _ rfl (Rd.one _ _ (show Value.string ⟨p.toArray⟩=st p from rfl)) (n+1) rfl (by omega) (by omega) (by have:=HB3.out.size;simp;omega) ?_;intro A4 c4 w4 hown4 hbel4;have HO4:=hide hown4;have HB4:=hide ((HB3.out.alloc HB3.out.size _).trans hbel4);clear hown4 hbel4)
    go_step3
    refine ⟨rfl,⟨q,(o++[p]),A4,(n+1),c4,_,_,_,_,_,_,_,_,_,_,_,_,_,_,_,_,_,_,_,_,_,_,_,_,_,_,_,_,_,_,_,_,_,_,_,_,_,_,_,_,_,_,_,_,_,_,_,_,rfl,HO4.out,HB4.out,?_,?_⟩,?_⟩
    ·have e:=HF.out
     rw [HPF.out] at e;simp only [moreL,if_true] at e;rw [List.foldl_cons,HST.out] at e;exact e
    ·have h1:=HLEN.out
     have h2:=HLR.out;simp only [moreN,if_true] at h2
     (rw [List.length_append,List.length_singleton];have:=(nameB_len HB2.out).1;omega)
    ·have h2:=HLR.out
     simp only [moreN,if_true] at h2;simp only [strLen,ByteArray.size,Array.getD_eq_getD_getElem?];simp;omega
   | false =>
    have hl:leftS (partsS s)=some (o++[p]):=by
     have e:=HF.out
     rw [HPF.out] at e;simp only [moreL,Bool.false_eq_true,if_false] at e;rw [List.foldl_cons,HST.out] at e;exact e.symm
    have HL:=hide hl;clear hl
    go_wp2_with (at_builtin;refine wpList_append_Rd _ rfl (.tmp 44) (.tmp 46) 41 rfl w.heap.size 9 _ 16 Tryz.underlying41 info_st rfl st_one _ n _ o rfl (HO3.out.alloc _) _ _ 1 1 _ rfl (Rd.one _ _ (show Value.string ⟨p.toArray⟩=st p from rfl)) (n+1) rfl (by omega) (by omega) (by have:=HB3.out.size;simp;omega) ?_;intro A4 c4 w4 hown4 hbel4;have HO4:=hide hown4;have HB4:=hide ((HB3.out.alloc HB3.out.size _).trans hbel4);clear hown4 hbel4)
    (first|go_ret2|(simp only [Exit.jump];go_ret2)|(rw [Exit.noGoto_ret];go_ret2))
    exact NRet.yes HH.out HL.out HO4.out HB4.out
 case _ =>
  intro hpass;have HPASS:=hide hpass;clear hpass
  go_wp2_with fail
  refine (HCP.out _).mono ?_
  rintro e w' ⟨rfl,rfl⟩
  go_wp2_with fail
  go_step3
  rename_i hK
  refine hK _ _ (HPASS.out _ _ ⟨r0,[],none,0,0,_,_,_,_,_,_,_,_,_,_,_,_,_,_,_,_,_,_,_,_,_,_,_,_,_,_,_,_,_,_,_,_,_,_,_,_,_,_,_,_,_,_,_,_,_,_,_,_,rfl,Ow.nil_ _ _ _ _,below_self _,?_,?_⟩)
  ·rw [HPF0.out];rfl
  ·have:=HL0.out;simpa using this
end Go.Proofs.YtggnbflbbfdohaaGreat

namespace Go.Proofs.YtggnbflbbfdohaaGreat
open Go.RowKit Plain

def StRet (w:World) (l:List UInt8) (b:Bool) (x:Ending) (w':World):Prop:=x=.returned (.tuple #[st l,.bool b])∧Below w.heap.size w w'
theorem StRet.of {w w':World} {l:List UInt8} {b:Bool} (h:Below w.heap.size w w'):StRet w l b (.returned (.tuple #[.string ⟨l.toArray⟩,.bool b])) w':=⟨rfl,h⟩

end Go.Proofs.YtggnbflbbfdohaaGreat

namespace Go.Proofs.YtggnbflbbfdohaaGreat
open Go.RowKit Plain

def LRet2 (w:World) (e:Nat) (l:List (List UInt8)) (a b:Bool) (x:Ending) (w':World):Prop :=
 ∃A n c,x=.returned (.tuple #[.slice A n c,.bool a,.bool b])∧Ow st w' w.heap.size e A n c l∧Below w.heap.size w w'
theorem LRet2.nil {w w':World} {e:Nat} {a b:Bool} (h:Below w.heap.size w w'):LRet2 w e [] a b (.returned (.tuple #[.slice none 0 0,.bool a,.bool b])) w':=⟨none,0,0,rfl,Ow.nil_ _ _ _ _,h⟩

set_option maxHeartbeats 800000 in
theorem RRed_long {s:List UInt8} (w:World) (h:24 < s.length):Calls Tryz.prog 58 #[st s] w (LRet2 w 9 [] false false):=by
 show Calls _ _ #[.string ⟨s.toArray⟩] _ _
 go_enter Tryz.func58,Tryz.ntmps58
 go_wp2
 go_ret3
 exact LRet2.nil (below_self w)

set_option maxHeartbeats 800000 in
theorem RRed_abs {s:List UInt8} (w:World) (h:¬24 < s.length) (hh:headB s=true):Calls Tryz.prog 58 #[st s] w (LRet2 w 9 (splitS s) (splitB s) (splitB s)):=by
 show Calls _ _ #[.string ⟨s.toArray⟩] _ _
 obtain ⟨hj,hbj⟩:=headB_get hh
 have hl0:0 < s.length:=by cases s with|nil=>simp [headB] at hh|cons c r=>simp
 have hl2:s.length≤24:=by omega
 obtain ⟨l,hl⟩:∃l,splitS s=l:=⟨_,rfl⟩;obtain ⟨b,hb⟩:∃b,splitB s=b:=⟨_,rfl⟩;rw [hl,hb];have HL:=hide hl;have HB:=hide hb;clear hh h hl hb
 go_enter Tryz.func58,Tryz.ntmps58
 go_wp2_with fail
 refine (RSplit_any _ (by omega)).mono ?_;rw [HL.out,HB.out]
 rintro e w1 ⟨A1,n1,c1,rfl,hown,hbel⟩
 have HO:=hide hown;have HBE:=hide hbel;clear hown hbel
 go_wp2_with fail
 go_ret3
 exact ⟨_,_,_,rfl,HO.out,HBE.out⟩

set_option maxHeartbeats 800000 in
theorem RRed_one {s:List UInt8} (w:World) (h:¬24 < s.length) (hh:headB s=false):Calls Tryz.prog 58 #[st s] w (LRet2 w 9 (if nameB s=true then [s] else []) false (nameB s)):=by
 show Calls _ _ #[.string ⟨s.toArray⟩] _ _
 cases hn:nameB s with
 | true =>
  have hl:=nameB_len hn
  have hl0:0 < s.length:=by omega
  obtain ⟨c,r,hs⟩:∃c r,s=c::r:=by cases s with|nil=>simp at hl0|cons c r=>exact ⟨c,r,rfl⟩
  have hj:0 < ByteArray.size ⟨s.toArray⟩:=hl0
  have hbj:(⟨s.toArray⟩:ByteArray)[0]'hj=c:=by subst hs;rfl
  have hc:c≠47:=by subst hs;simpa [headB] using hh
  have htest:((c.toNat:Int)==47)=false:=by
   simp only [beq_eq_false_iff_ne,ne_eq];intro e
   apply hc
   apply UInt8.toNat_inj.1
   have:c.toNat=47:=by omega
   rw [this]
   rfl
  have hl2:s.length≤24:=by omega
  have HN:=hide hn;rw [if_pos rfl];clear hh h hn hl hs hc
  go_enter Tryz.func58,Tryz.ntmps58
  go_wp2_with fail
  refine (RNRight_b HN.out _ (by omega)).mono ?_
  rintro e w' ⟨rfl,rfl⟩
  go_wp2_with fail
  go_ret3
  exact ⟨_,_,_,rfl,Ow.lit w 9 (cs:=[.string ⟨s.toArray⟩]) rfl rfl (by omega),below_new (below_self w) _⟩
 | false =>
  have hl2:s.length≤24:=by omega
  have HN:=hide hn;rw [if_neg (by simp)]
  cases s with
  | nil =>
   clear hh h hn
   go_enter Tryz.func58,Tryz.ntmps58
   go_wp2_with fail
   refine (RNRight_b (l:=[]) HN.out _ (by simp)).mono ?_
   rintro e w' ⟨rfl,rfl⟩
   go_wp2_with fail
   go_ret3
   exact LRet2.nil (below_self w)
  | cons c r =>
   have hj:0 < ByteArray.size ⟨(c::r).toArray⟩:=by simp [ByteArray.size]
   have hbj:(⟨(c::r).toArray⟩:ByteArray)[0]'hj=c:=rfl
   have hc:c≠47:=by simpa [headB] using hh
   have htest:((c.toNat:Int)==47)=false:=by
    simp only [beq_eq_false_iff_ne,ne_eq];intro e
    apply hc
    apply UInt8.toNat_inj.1
    have:c.toNat=47:=by omega
    rw [this]
    rfl
   obtain ⟨s,hs⟩:∃s,s=c::r:=⟨_,rfl⟩;rw [←hs] at hl2 HN hj ⊢
   have hbj2:(⟨s.toArray⟩:ByteArray)[0]'hj=c:=by subst hs;rfl
   have hl0:0 < s.length:=by rw [hs];simp
   clear hh h hn hc hs hbj
   go_enter Tryz.func58,Tryz.ntmps58
   go_wp2_with fail
   refine (RNRight_b HN.out _ (by omega)).mono ?_
   rintro e w' ⟨rfl,rfl⟩
   go_wp2_with fail
   go_ret3
   exact LRet2.nil (below_self w)

theorem RRed_any {s:List UInt8} (w:World):Calls Tryz.prog 58 #[st s] w (LRet2 w 9 (redL s) (redA s) (redB s)):=by
 by_cases h:24 < s.length
 ·rw [show redL s=[] from by simp [redL,h],show redA s=false from by simp [redA,h],show redB s=false from by simp [redB,h]]
  exact RRed_long w h
 ·cases hh:headB s with
  | true =>
   rw [show redL s=splitS s from by simp [redL,h,hh],show redA s=splitB s from by simp [redA,h,hh],show redB s=splitB s from by simp [redB,h,hh]];exact RRed_abs w h hh
  | false =>
   rw [show redL s=(if nameB s=true then [s] else []) from by simp [redL,h,hh],show redA s=false from by simp [redA,hh],show redB s=nameB s from by simp [redB,h,hh]];exact RRed_one w h hh
end Go.Proofs.YtggnbflbbfdohaaGreat

namespace Go.Proofs.YtggnbflbbfdohaaGreat
open Go.RowKit Plain

theorem joinS_lib (l:List (List UInt8)):joinS l=47::Lib.join l [47]:=by
 induction l using snoc_ind with
 | h0=>rfl
 | h1 l x ih =>
  rw [joinS_snoc,ih]
  by_cases hl:l=[]
  ·subst hl
   simp [Lib.join,List.intercalate]
  ·rw [if_neg (by intro e;exact hl (List.eq_nil_of_length_eq_zero e))]
   obtain ⟨y,r,rfl⟩:∃y r,l=y::r:=by cases l with|nil=>exact absurd rfl hl|cons y r=>exact ⟨y,r,rfl⟩
   rw [Lib.join_cons,show (y::r)++[x]=y::(r++[x]) from rfl,Lib.join_cons];simp [Lib.joinTail]

set_option maxHeartbeats 400000 in
theorem PJoin_any {A:Option Addr} {m c:Nat} {l:List (List UInt8)} (w:World) (ha:Rd st w w.heap.size A m l) (hm:m≤2000000) (hmc:m≤c) (ht:totL l≤140737488355327) :
  Calls Tryz.prog 74 #[.slice A m c] w fun e w'=>e=.returned (st (joinS l))∧Below w.heap.size w w':=by
 have hjl:=joinS_length l;rw [joinS_lib,List.length_cons] at hjl
 have hcon:∀w:World,Rd st w w.heap.size A m l→Calls Tryz.prog 110 #[.slice A m c,.string ⟨#[47]⟩] w fun e w'=>e=.returned (.string ⟨(Lib.join l [47]).toArray⟩)∧Below w.heap.size w w':=by
  intro w ha
  by_cases h0:m=0
  ·subst h0
   obtain rfl:l=[]:=List.eq_nil_of_length_eq_zero ha.len;refine (Tryz.strings_Join_none A c ⟨#[47]⟩ w).mono ?_
   rintro e w' ⟨rfl,rfl⟩
   exact ⟨rfl,below_self _⟩
  ·obtain ⟨b,o,rfl,hb,hc⟩:=ha.2 (by omega)
   have hl:=ha.len
   have e1:(l.map fun x=>(⟨x.toArray⟩:ByteArray)).map (·.data.toList)=l:=by rw [List.map_map];exact List.map_id l
   have hlen:(l.map fun x=>(⟨x.toArray⟩:ByteArray)).length=m:=by simp [hl]
   have h:=Tryz.strings_Join b o c (l.map fun x=>⟨x.toArray⟩) ⟨#[47]⟩ w (fun j x hx=>by
    rw [List.getElem?_map,Option.map_eq_some_iff] at hx;obtain ⟨y,hy,rfl⟩:=hx
    exact hc j y hy) hb (by omega) (by omega) (by rw [e1];show (Lib.join l [47]).length≤_;omega)
   rw [e1,hlen] at h;exact h
 have HC:=hide hcon;have HA:=hide ha;have hadd:=fun W=>add_lists (P:=Tryz.prog) (x:=[47]) (y:=Lib.join l [47]) (z:=joinS l) (by simp;omega) (by rw [joinS_lib];rfl) W;clear hcon ha hjl
 go_enter Tryz.func74,Tryz.ntmps74
 go_wp2_with fail
 refine (HC.out _ HA.out).mono ?_
 rintro e w1 ⟨rfl,hbel⟩
 have HB:=hide hbel;clear hbel
 go_wp2_with fail
 go_ret
 exact ⟨rfl,HB.out⟩
theorem names_clean {s:List UInt8} (h:cleanB s=true):joinS (namesPt s)=cleanS s∧(namesPt s).all nameB=true∧(namesPt s).length≤1+s.length∧totL (namesPt s)≤(1+s.length)*(s.length+1):=by
 unfold cleanB at h;rw [Bool.and_eq_true,Option.isSome_iff_exists] at h;obtain ⟨hh,o,ho⟩:=h
 have e1:namesPt s=o:=by simp [namesPt,hh,ho]
 have e2:cleanS s=joinS o:=by unfold cleanS;rw [if_pos hh,ho]
 have hp:=partsS_len s;have hl:=leftS_len _ _ ho;have ht:=totL_le hp.2;have hm:(partsS s).length*(s.length+1)≤(1+s.length)*(s.length+1):=Nat.mul_le_mul_right _ hp.1;rw [e1,e2];exact ⟨rfl,left_all ho,by omega,by omega⟩
theorem split_iff (s:List UInt8):splitB s=(cleanB s&&(joinS (namesPt s)==s))∧splitS s=if splitB s=true then namesPt s else []:=by
 cases hc:cleanB s with
 | false =>
  have hs:splitB s=false:=by
   cases h:splitB s with
   | false=>rfl
   | true=>rw [(split_back h).2.1] at hc;cases hc
  refine ⟨by rw [hs];rfl,?_⟩;rw [hs];unfold splitB at hs;rw [Bool.or_eq_false_iff] at hs;unfold splitS;rw [if_neg (by simpa using hs.1),hs.2]
  rfl
 | true =>
  obtain ⟨hj,ha,_,_⟩:=names_clean hc
  by_cases he:joinS (namesPt s)=s
  ·obtain ⟨h1,h2⟩:=split_join ha
   rw [he] at h1 h2;refine ⟨by rw [h1,he];simp,by rw [h1,if_pos rfl,h2]⟩
  ·have hs:splitB s=false:=by
    cases h:splitB s with
    | false=>rfl
    | true=>rw [hj] at he;exact absurd (split_back h).2.2 he
   have he2:(joinS (namesPt s)==s)=false:=by simpa using he
   refine ⟨by rw [hs,he2];rfl,?_⟩;rw [hs];unfold splitB at hs;rw [Bool.or_eq_false_iff] at hs;unfold splitS;rw [if_neg (by simpa using hs.1),hs.2]
   rfl

theorem mul_small {n:Nat} (h:n≤1100000):(1+n)*(n+1)≤1210002200001:=by
 have:(1+n)*(n+1)≤1100001*1100001:=Nat.mul_le_mul (by omega) (by omega)
 omega

set_option maxHeartbeats 800000 in
theorem PSplit_any {s:List UInt8} (w:World) (hs:s.length≤1100000):Calls Tryz.prog 93 #[st s] w (LRet w 9 (splitS s) (splitB s)):=by
 unfold st;obtain ⟨q1,q2⟩:=split_iff s;rw [q2]
 cases hc:cleanB s with
 | false =>
  rw [hc] at q1;have hb:splitB s=false:=q1;rw [hb];have HC:=hide hc;clear q1 q2 hb hc
  go_enter Tryz.func93,Tryz.ntmps93
  go_wp2_with fail
  refine (names_any _ (by omega)).mono ?_;rw [HC.out]
  rintro e w1 ⟨A1,n1,c1,rfl,hown,hbel⟩
  have HB:=hide hbel;clear hown hbel
  go_wp2_with fail
  go_ret2
  exact LRet.nil HB.out
 | true =>
  obtain ⟨_,_,hn,ht⟩:=names_clean hc;have hms:=mul_small hs;rw [hc,Bool.true_and] at q1;rw [q1];obtain ⟨l,hl⟩:∃l,namesPt s=l:=⟨_,rfl⟩;rw [hl] at hn ht ⊢;obtain ⟨j,hj⟩:∃j,joinS l=j:=⟨_,rfl⟩;rw [hj];have HC:=hide hc;have HL:=hide hl;have HJ:=hide hj;have HN:=hide hn;have HT:=hide (Nat.le_trans ht hms);clear hc hl hj hn ht q1 q2 hms
  by_cases hjs:j=s
  ·have d1:(j != s)=false:=by simp [hjs]
   have d2:(j==s)=true:=by simp [hjs]
   rw [d2];clear hjs
   go_enter Tryz.func93,Tryz.ntmps93
   go_wp2_with fail
   refine (names_any _ (by omega)).mono ?_;rw [HC.out,HL.out]
   rintro e w1 ⟨A1,n1,c1,rfl,hown,hbel⟩
   have HO:=hide hown;have HB:=hide hbel;have hnn:=hown.len;have hcap:=hown.cap;have HNN:=hide hnn;clear hown hbel hnn
   go_wp2_with fail
   refine (PJoin_any _ HO.out.rd (by have:=HN.out;have:=HNN.out;omega) hcap (by have:=HT.out;omega)).mono ?_;rw [HJ.out];unfold st
   rintro e w2 ⟨rfl,hbel⟩
   have HB2:=hide (below_step HB.out hbel);have HO2:=hide (HO.out.below hbel);clear hbel
   go_wp2_with fail
   go_ret2
   exact ⟨_,_,_,rfl,HO2.out,HB2.out⟩
  ·have d1:(j != s)=true:=by simpa using hjs
   have d2:(j==s)=false:=by simpa using hjs
   rw [d2]
   have d3:¬j=s:=hjs
   clear hjs
   go_enter Tryz.func93,Tryz.ntmps93
   go_wp2_with fail
   refine (names_any _ (by omega)).mono ?_;rw [HC.out,HL.out]
   rintro e w1 ⟨A1,n1,c1,rfl,hown,hbel⟩
   have HO:=hide hown;have HB:=hide hbel;have hnn:=hown.len;have hcap:=hown.cap;have HNN:=hide hnn;clear hown hbel hnn
   go_wp2_with fail
   refine (PJoin_any _ HO.out.rd (by have:=HN.out;have:=HNN.out;omega) hcap (by have:=HT.out;omega)).mono ?_;rw [HJ.out];unfold st
   rintro e w2 ⟨rfl,hbel⟩
   have HB2:=hide (below_step HB.out hbel);clear hbel
   go_wp2_with fail
   go_ret2
   exact LRet.nil HB2.out

end Go.Proofs.YtggnbflbbfdohaaGreat

