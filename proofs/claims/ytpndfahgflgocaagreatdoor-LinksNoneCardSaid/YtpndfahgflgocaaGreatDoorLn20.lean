import Derived.Test.YtpndfahgflgocaaGreatDoorLn19
import Derived.ScopeJumps
import Derived.WalkMore
import Derived.Lib.CutLaws
import Derived.Test.YtpndfahgflgocaaGreatDoorLn8
import Derived.IntWalk
import Derived.BigQuiet
import Derived.Deep.QuietTactic
import Derived.Test.YtpndfahgflgocaaGreatDoorLn10
import Derived.Test.YtpndfahgflgocaaGreatDoorLn16
import Derived.Lib.Join
import Derived.Test.YtpndfahgflgocaaGreatDoorRows
import Derived.Test.YtpndfahgflgocaaGreatDoorLn1
import Derived.Laws.Cover3
import Derived.Test.YtpndfahgflgocaaGreatDoorLn15

namespace Go.Proofs.YtpndfahgflgocaaGreatDoor
open Go.RowKit Plain

def partsF (r:List UInt8):List (List UInt8):=r.foldl stepP [[]]
theorem stepP_pre (a b:List (List UInt8)) (c:UInt8) (hb:b≠[]):stepP (a++b) c=a++stepP b c:=by
 have h1:0 < b.length:=List.length_pos_iff.2 hb
 unfold stepP
 split
 ·rw [List.append_assoc]
 ·have e1:(a++b).length - 1=a.length+(b.length - 1):=by rw [List.length_append];omega
  rw [e1,List.set_append_right _ _ (by omega),Nat.add_sub_cancel_left]
  congr 2
  simp only [List.getD]
  rw [List.getElem?_append_right (by omega),Nat.add_sub_cancel_left]
theorem fold_pre (q:List UInt8):∀(a b:List (List UInt8)),b≠[]→q.foldl stepP (a++b)=a++q.foldl stepP b:=by
 induction q with
 | nil=>intro a b _;rfl
 | cons c r ih =>
  intro a b hb
  rw [List.foldl_cons,List.foldl_cons,stepP_pre a b c hb]
  refine ih a _ ?_
  intro e
  have:=stepP_length b c
  rw [e] at this
  have h1:0 < b.length:=List.length_pos_iff.2 hb
  split at this <;> simp at this
  omega
theorem partsF_one {p:List UInt8} (h:∀c∈p,c≠47):partsF p=[p]:=fold_noslash p h [] []
theorem partsF_more {p q:List UInt8} (h:∀c∈p,c≠47):partsF (p++47::q)=p::partsF q:=by
 have e:=fold_noslash p h [] []
 simp only [List.nil_append] at e
 unfold partsF
 rw [List.foldl_append,e,List.foldl_cons]
 show q.foldl stepP ([p]++[[]])=_
 rw [fold_pre q [p] [[]] (by simp)]
 rfl
theorem cut_at (r:List UInt8):(∀c∈r,c≠47)∨∃p q,(∀c∈p,c≠47)∧r=p++47::q:=by
 induction r with
 | nil=>exact .inl (by simp)
 | cons x r ih =>
  by_cases hx:x=47
  ·exact .inr ⟨[],r,by simp,by rw [hx];rfl⟩
  ·rcases ih with h|⟨p,q,h,rfl⟩
   ·refine .inl fun c hc=>?_
    rcases List.mem_cons.1 hc with e|e
    ·rw [e];exact hx
    ·exact h c e
   ·refine .inr ⟨x::p,q,fun c hc=>?_,rfl⟩
    rcases List.mem_cons.1 hc with e|e
    ·rw [e];exact hx
    ·exact h c e
def moreL (b:Bool) (p q:List UInt8):List (List UInt8):=if b then p::partsF q else [p]
def moreN (b:Bool) (p q:List UInt8):Nat:=if b then p.length+q.length+1 else p.length
theorem Cut_any (r:List UInt8) (hr:r.length≤140737488355328):∃p q b,(∀w:World,Calls Tryz.prog 212 #[.string ⟨r.toArray⟩,.string ⟨#[47]⟩] w (CutRet w p q b))∧partsF r=moreL b p q∧r.length=moreN b p q:=by
 rcases cut_at r with h|⟨p,q,h,rfl⟩
 ·exact ⟨r,[],false,fun w=>Cut_no h w,partsF_one h,rfl⟩
 ·refine ⟨p,q,true,fun w=>Cut_yes h w hr,partsF_more h,?_⟩
  show _=p.length+q.length+1
  rw [List.length_append,List.length_cons]
  omega
theorem head_cut {s:List UInt8}:(headB s=true∧∃r,s=47::r)∨(headB s=false∧Lib.hasPrefix s [47]=false∧Lib.trimPrefix s [47]=s):=by
 cases s with
 | nil=>exact .inr ⟨rfl,rfl,rfl⟩
 | cons c r =>
  by_cases hc:c=47
  ·subst hc;exact .inl ⟨rfl,r,rfl⟩
  ·refine .inr ?_
   have h1:headB (c::r)=false:=by simp [headB,hc]
   have h2:Lib.hasPrefix (c::r) [47]=false:=by
    have:(47==c)=false:=by simpa using fun e=>hc (Eq.symm e)
    simp [Lib.hasPrefix,List.isPrefixOf,this]
   exact ⟨h1,h2,by unfold Lib.trimPrefix;rw [h2];rfl⟩
theorem trim_cons (r:List UInt8):Lib.trimPrefix (47::r) [47]=r∧Lib.hasPrefix (47::r) [47]=true:=by
 have h2:Lib.hasPrefix (47::r) [47]=true:=by simp [Lib.hasPrefix,List.isPrefixOf]
 exact ⟨by unfold Lib.trimPrefix;rw [h2];rfl,h2⟩
def namesPt (s:List UInt8):List (List UInt8):=if headB s=true then (leftS (partsS s)).getD [] else []
theorem NRet.yes {s:List UInt8} {w w':World} {o:List (List UInt8)} {A:Option Addr} {n c:Nat} (hh:headB s=true) (hl:leftS (partsS s)=some o) (hown:Ow st w' w.heap.size 9 A n c o) (hb:Below w.heap.size w w') :
  LRet w 9 (namesPt s) (cleanB s) (.returned (.tuple #[.slice A n c,.bool true])) w':=by
 have e1:namesPt s=o:=by simp [namesPt,hh,hl]
 have e2:cleanB s=true:=by simp [cleanB,hh,hl]
 rw [e1,e2]
 exact ⟨A,n,c,rfl,hown,hb⟩
theorem NRet.no {s:List UInt8} {w w':World} (hc:cleanB s=false) (hb:Below w.heap.size w w'):LRet w 9 (namesPt s) (cleanB s) (.returned (.tuple #[.slice none 0 0,.bool false])) w':=by
 have e1:namesPt s=[]:=by
  unfold cleanB at hc
  unfold namesPt
  by_cases hh:headB s=true
  ·rw [if_pos hh]
   rw [hh] at hc
   cases hl:leftS (partsS s) with
   | none=>rfl
   | some o=>rw [hl] at hc;cases hc
  ·rw [if_neg hh]
 rw [e1,hc]
 exact LRet.nil hb
def NInv (s:List UInt8) (w w':World) (r:List UInt8) (o:List (List UInt8)) (A:Option Addr) (n c:Nat):Prop :=
 Ow st w' w.heap.size 9 A n c o∧Below w.heap.size w w'∧(partsF r).foldl stepC (some o)=leftS (partsS s)∧o.length+r.length≤s.length
def strLen:Value→Nat|.string b=>b.size|_=>0
theorem fold_none (l:List (List UInt8)):l.foldl stepC none=none:=by
 induction l with
 | nil=>rfl
 | cons y r ih=>rw [List.foldl_cons];exact ih
theorem more_stop {b:Bool} {p q:List UInt8} {o:List (List UInt8)} (h:stepC (some o) p=none):(moreL b p q).foldl stepC (some o)=none:=by
 unfold moreL
 split
 ·rw [List.foldl_cons,h,fold_none]
 ·rw [List.foldl_cons,h];rfl
theorem wp_scope_once {P : Program} {a : Act} {w : World} {Q : Exit → Act → World → Prop} {c rest : Code} (l : Nat) (J : Act → World → Prop) (μ : Act → World → Nat) (hf : findLabel c l = some (Code.skip.seq rest))
  (pass:∀a w,J a w→rest.wp P (Exit.jump l (fun a' w'=>J a' w'∧μ a' w' < μ a w) Q) a w)
  (first:(∀a w,J a w→rest.wp P (Exit.jump l J Q) a w)→c.wp P (Exit.jump l J Q) a w):(Code.scope c).wp P Q a w:=by
 refine wp_scope_jumps l J μ hf (first fun a w h=>Code.wp_mono (fun e a' w' hq=>?_) (pass a w h)) (fun a w h=>wp_seq (wp_skip (pass a w h)))
 cases e with
 | goto l'=>exact ⟨hq.1,hq.2.1⟩
 | normal=>exact hq
 | exit id=>exact hq
 | ret=>exact hq
 | panic ch=>exact hq
 | outgrown=>exact hq

set_option maxHeartbeats 4000000 in
set_option maxRecDepth 100000 in
theorem names_any {s:List UInt8} (w:World) (hs:s.length≤1100000) :
  Calls Tryz.prog 207 #[st s] w (LRet w 9 (namesPt s) (cleanB s)):=by
 unfold st
 rcases head_cut (s:=s) with ⟨hh,r0,hr0⟩|⟨hh,hp,ht⟩
 case inr =>
  have hcp:∀w:World,Calls Tryz.prog 211 #[.string ⟨s.toArray⟩,.string ⟨#[47]⟩] w fun e w'=>e=.returned (.tuple #[.string ⟨s.toArray⟩,.bool false])∧w'=w:=by
   intro w
   have h:Calls Tryz.prog 211 #[.string ⟨s.toArray⟩,.string ⟨#[47]⟩] w fun e w'=>e=.returned (.tuple #[.string ⟨(Lib.trimPrefix s [47]).toArray⟩,.bool (Lib.hasPrefix s [47])])∧w'=w:=Tryz.strings_CutPrefix ⟨s.toArray⟩ ⟨#[47]⟩ w
   rwa [ht,hp] at h
  have HCP:=hide hcp
  have hcl:cleanB s=false:=by simp [cleanB,hh]
  have HCL:=hide hcl
  clear hcp hp ht hh hcl
  go_enter Tryz.func207,Tryz.ntmps207
  go_wp2_with fail
  go_step3
  go_wp2_with fail
  refine (HCP.out _).mono ?_
  rintro e w' ⟨rfl,rfl⟩
  go_wp2_with fail
  (first|go_ret2|(simp only [Exit.jump];go_ret2)|(rw [Exit.noGoto_ret];go_ret2))
  exact NRet.no HCL.out (below_self _)
 have hcp:∀w:World,Calls Tryz.prog 211 #[.string ⟨s.toArray⟩,.string ⟨#[47]⟩] w fun e w'=>e=.returned (.tuple #[.string ⟨r0.toArray⟩,.bool true])∧w'=w:=by
  intro w
  have h:Calls Tryz.prog 211 #[.string ⟨s.toArray⟩,.string ⟨#[47]⟩] w fun e w'=>e=.returned (.tuple #[.string ⟨(Lib.trimPrefix s [47]).toArray⟩,.bool (Lib.hasPrefix s [47])])∧w'=w:=Tryz.strings_CutPrefix ⟨s.toArray⟩ ⟨#[47]⟩ w
  rwa [hr0,(trim_cons r0).1,(trim_cons r0).2,←hr0] at h
 have HCP:=hide hcp
 have HH:=hide hh
 have hpf:partsF r0=partsS s:=by rw [hr0];rfl
 have HPF0:=hide hpf
 have hl0:r0.length≤s.length:=by rw [hr0];simp
 have HL0:=hide hl0
 have HS:=hide hs
 clear hcp hh hr0 hpf hl0 hs
 go_enter Tryz.func207,Tryz.ntmps207
 go_wp2_with fail
 refine wp_scope_once 0 (fun a' w'=>∃(r:List UInt8) (o:List (List UInt8)) (A:Option Addr) (n c:Nat) (u0 u1 u2 u3 u5 u7 u8 u9 u10 u11 u12 u13 u14 u15 u16 u17 u18 u19 u20 u21 u22 u23 u24 u25 u26 u27 u28 u29 u30 u31 u32 u33 u34 u35 u36 u37 u38 u39 u40 u41 u42 u43 u44 u45 u46 u47 u48 u49:Value),a'={tmps:=#[u0,u1,u2,u3,.string ⟨r.toArray⟩,u5,.slice A n c,u7,u8,u9,u10,u11,u12,u13,u14,u15,u16,u17,u18,u19,u20,u21,u22,u23,u24,u25,u26,u27,u28,u29,u30,u31,u32,u33,u34,u35,u36,u37,u38,u39,u40,u41,u42,u43,u44,u45,u46,u47,u48,u49],defers:=[]}∧NInv s w w' r o A n c) (fun a' _=>strLen (a'.tmps.getD 4 undef)) rfl ?_ ?_
 case _ =>
  rintro a' w' ⟨r,o,A,n,c,u0,u1,u2,u3,u5,u7,u8,u9,u10,u11,u12,u13,u14,u15,u16,u17,u18,u19,u20,u21,u22,u23,u24,u25,u26,u27,u28,u29,u30,u31,u32,u33,u34,u35,u36,u37,u38,u39,u40,u41,u42,u43,u44,u45,u46,u47,u48,u49,rfl,hown,hbel,hfold,hlen⟩
  have hon:=hown.len
  obtain ⟨p,q,b,hcut,hpf,hlr⟩:=Cut_any r (by have:=HS.out;omega)
  have HCUT:=hide hcut
  have HO:=hide hown
  have HB:=hide hbel
  have HF:=hide hfold
  have HPF:=hide hpf
  have HLR:=hide hlr
  have HLEN:=hide hlen
  have hn:n≤1100000:=by have:=HS.out;omega
  have HON:=hide hon
  clear hcut hown hbel hfold hpf hlr hlen hon
  by_cases hp0:p=[]
  ·subst hp0
   have hst:stepC (some o) []=some o:=by simp [stepC]
   have HST:=hide hst
   clear hst
   go_wp2_with fail
   refine (HCUT.out _).mono ?_
   rintro e w1 ⟨rfl,nd,rfl⟩
   unfold st
   cases b with
   | true =>
    go_wp2_with fail
    go_step3
    refine ⟨rfl,⟨q,o,A,n,c,_,_,_,_,_,_,_,_,_,_,_,_,_,_,_,_,_,_,_,_,_,_,_,_,_,_,_,_,_,_,_,_,_,_,_,_,_,_,_,_,_,_,_,_,_,_,_,_,rfl,(HO.out.drewN nd),(below_drewN HB.out nd),?_,?_⟩,?_⟩
    ·have e:=HF.out
     rw [HPF.out] at e
     simp only [moreL,if_true] at e
     rw [List.foldl_cons,HST.out] at e
     exact e
    ·have h1:=HLEN.out
     have h2:=HLR.out
     simp only [moreN,if_true] at h2
     omega
    ·have h2:=HLR.out
     simp only [moreN,if_true] at h2
     simp only [strLen,ByteArray.size,Array.getD_eq_getD_getElem?]
     simp
     omega
   | false =>
    have hl:leftS (partsS s)=some o:=by
     have e:=HF.out
     rw [HPF.out] at e
     simp only [moreL,Bool.false_eq_true,if_false] at e
     rw [List.foldl_cons,HST.out] at e
     exact e.symm
    have HL:=hide hl
    clear hl
    go_wp2_with fail
    (first|go_ret2|(simp only [Exit.jump];go_ret2)|(rw [Exit.noGoto_ret];go_ret2))
    exact NRet.yes HH.out HL.out (HO.out.drewN nd) (below_drewN HB.out nd)
  by_cases hp1:p=[46]
  ·subst hp1
   have hst:stepC (some o) [46]=some o:=by simp [stepC]
   have HST:=hide hst
   clear hst
   go_wp2_with fail
   refine (HCUT.out _).mono ?_
   rintro e w1 ⟨rfl,nd,rfl⟩
   unfold st
   cases b with
   | true =>
    go_wp2_with fail
    go_step3
    refine ⟨rfl,⟨q,o,A,n,c,_,_,_,_,_,_,_,_,_,_,_,_,_,_,_,_,_,_,_,_,_,_,_,_,_,_,_,_,_,_,_,_,_,_,_,_,_,_,_,_,_,_,_,_,_,_,_,_,rfl,(HO.out.drewN nd),(below_drewN HB.out nd),?_,?_⟩,?_⟩
    ·have e:=HF.out
     rw [HPF.out] at e
     simp only [moreL,if_true] at e
     rw [List.foldl_cons,HST.out] at e
     exact e
    ·have h1:=HLEN.out
     have h2:=HLR.out
     simp only [moreN,if_true] at h2
     omega
    ·have h2:=HLR.out
     simp only [moreN,if_true] at h2
     simp only [strLen,ByteArray.size,Array.getD_eq_getD_getElem?]
     simp
     omega
   | false =>
    have hl:leftS (partsS s)=some o:=by
     have e:=HF.out
     rw [HPF.out] at e
     simp only [moreL,Bool.false_eq_true,if_false] at e
     rw [List.foldl_cons,HST.out] at e
     exact e.symm
    have HL:=hide hl
    clear hl
    go_wp2_with fail
    (first|go_ret2|(simp only [Exit.jump];go_ret2)|(rw [Exit.noGoto_ret];go_ret2))
    exact NRet.yes HH.out HL.out (HO.out.drewN nd) (below_drewN HB.out nd)
  have d0:(p==[])=false:=by simpa using hp0
  have d1:(p==[46])=false:=by simpa using hp1
  have hx0:¬(p=[]∨p=[46]):=by rintro (h|h) <;> contradiction
  by_cases hp2:p=[46,46]
  ·subst hp2
   by_cases hn0:n=0
   ·subst hn0
    have ho0:o=[]:=List.eq_nil_of_length_eq_zero HON.out
    have hcl:cleanB s=false:=by
     have e:=HF.out
     rw [HPF.out,more_stop (by rw [ho0];rfl)] at e
     unfold cleanB
     rw [←e]
     simp
    have HCL:=hide hcl
    clear ho0 hcl hx0 d0 d1 hp0 hp1
    go_wp2_with fail
    refine (HCUT.out _).mono ?_
    rintro e w1 ⟨rfl,nd,rfl⟩
    unfold st
    go_wp2_with fail
    refine (NRight_b (l:=[46,46]) (b:=false) (by decide +kernel) _ (by decide)).mono ?_
    rintro e w2 ⟨rfl,hbel⟩
    have HB2:=hide (below_step (below_drewN HB.out nd) hbel)
    clear hbel
    go_wp2_with fail
    (first|go_ret2|(simp only [Exit.jump];go_ret2)|(rw [Exit.noGoto_ret];go_ret2))
    exact NRet.no HCL.out HB2.out
   ·obtain ⟨g2,rfl,hg2,hgl2,_,_⟩:=HO.out.at_ (by omega)
    have hcp:=HO.out.cap
    have hst:stepC (some o) [46,46]=some o.dropLast:=by
     have hne:o≠[]:=by intro e;have:=HON.out;rw [e] at this;simp at this;omega
     simp [stepC,hne]
    have hcut:=HO.out.cut (i:=n - 1) (by omega) (by simp)
    have hdl:o.take (n - 1)=o.dropLast:=by rw [List.dropLast_eq_take,HON.out]
    rw [hdl] at hcut
    have HST:=hide hst
    have HC:=hide hcut
    have HDL:=hide (show o.dropLast.length=n - 1 by rw [List.length_dropLast,HON.out])
    have hp1':1≤n:=by omega
    have hn1:0 < n:=by omega
    clear hst hcut hdl hx0 d0 d1 hp0 hp1 hn0
    go_wp2_with fail
    refine (HCUT.out _).mono ?_
    rintro e w1 ⟨rfl,nd,rfl⟩
    unfold st
    cases b with
    | true =>
     go_wp2_with fail
     go_step3
     refine ⟨rfl,⟨q,o.dropLast,_,(n - 1),c,_,_,_,_,_,_,_,_,_,_,_,_,_,_,_,_,_,_,_,_,_,_,_,_,_,_,_,_,_,_,_,_,_,_,_,_,_,_,_,_,_,_,_,_,_,_,_,_,rfl,(HC.out.drewN nd),(below_drewN HB.out nd),?_,?_⟩,?_⟩
     ·have e:=HF.out
      rw [HPF.out] at e
      simp only [moreL,if_true] at e
      rw [List.foldl_cons,HST.out] at e
      exact e
     ·have h1:=HLEN.out
      have h2:=HLR.out
      simp only [moreN,if_true] at h2
      (have h3:=HDL.out;have h4:=HON.out;omega)
     ·have h2:=HLR.out
      simp only [moreN,if_true] at h2
      simp only [strLen,ByteArray.size,Array.getD_eq_getD_getElem?]
      simp
      omega
    | false =>
     have hl:leftS (partsS s)=some o.dropLast:=by
      have e:=HF.out
      rw [HPF.out] at e
      simp only [moreL,Bool.false_eq_true,if_false] at e
      rw [List.foldl_cons,HST.out] at e
      exact e.symm
     have HL:=hide hl
     clear hl
     go_wp2_with fail
     (first|go_ret2|(simp only [Exit.jump];go_ret2)|(rw [Exit.noGoto_ret];go_ret2))
     exact NRet.yes HH.out HL.out (HC.out.drewN nd) (below_drewN HB.out nd)
  have d2:(p==[46,46])=false:=by simpa using hp2
  have hpl:p.length≤140737488355328:=by
   have h1:=HLEN.out
   have h2:=HLR.out
   have h3:=HS.out
   unfold moreN at h2
   split at h2 <;> omega
  cases hb2:nameB p with
  | false =>
   have hst:stepC (some o) p=none:=by simp only [stepC,if_neg hx0,if_neg hp2,hb2];rfl
   have hcl:cleanB s=false:=by
    have e:=HF.out
    rw [HPF.out,more_stop hst] at e
    unfold cleanB
    rw [←e]
    simp
   have HCL:=hide hcl
   have HB2:=hide hb2
   clear hst hcl hb2 hx0 hp0 hp1 hp2
   go_wp2_with fail
   refine (HCUT.out _).mono ?_
   rintro e w1 ⟨rfl,nd,rfl⟩
   unfold st
   go_wp2_with fail
   refine (NRight_b HB2.out _ hpl).mono ?_
   rintro e w2 ⟨rfl,hbel⟩
   have HB3:=hide (below_step (below_drewN HB.out nd) hbel)
   clear hbel
   go_wp2_with fail
   (first|go_ret2|(simp only [Exit.jump];go_ret2)|(rw [Exit.noGoto_ret];go_ret2))
   exact NRet.no HCL.out HB3.out
  | true =>
   have hst:stepC (some o) p=some (o++[p]):=by simp only [stepC,if_neg hx0,if_neg hp2,hb2,if_true]
   have HST:=hide hst
   have HB2:=hide hb2
   clear hst hb2 hx0 hp0 hp1 hp2
   go_wp2_with fail
   refine (HCUT.out _).mono ?_
   rintro e w1 ⟨rfl,nd,rfl⟩
   unfold st
   go_wp2_with fail
   refine (NRight_b HB2.out _ hpl).mono ?_
   rintro e w2 ⟨rfl,hbel⟩
   have HB3:=hide (below_step (below_drewN HB.out nd) hbel)
   have HO3:=hide ((HO.out.drewN nd).below (hbel.mono (by simp)))
   clear hbel
   cases b with
   | true =>
    go_wp2_with (at_builtin;refine wpList_append_Rd _ rfl (.tmp 44) (.tmp 46) 129 rfl w.heap.size 9 _ 16 Tryz.underlying129 info_st rfl st_one _ n _ o rfl (HO3.out.alloc _) _ _ 1 1 _ rfl (Rd.one _ _ (show Value.string ⟨p.toArray⟩=st p from rfl)) (n+1) rfl (by omega) (by omega) (by have:=HB3.out.size;simp;omega) ?_;intro A4 c4 w4 hown4 hbel4;have HO4:=hide hown4;have HB4:=hide ((HB3.out.alloc HB3.out.size _).trans hbel4);clear hown4 hbel4)
    go_step3
    refine ⟨rfl,⟨q,(o++[p]),A4,(n+1),c4,_,_,_,_,_,_,_,_,_,_,_,_,_,_,_,_,_,_,_,_,_,_,_,_,_,_,_,_,_,_,_,_,_,_,_,_,_,_,_,_,_,_,_,_,_,_,_,_,rfl,HO4.out,HB4.out,?_,?_⟩,?_⟩
    ·have e:=HF.out
     rw [HPF.out] at e
     simp only [moreL,if_true] at e
     rw [List.foldl_cons,HST.out] at e
     exact e
    ·have h1:=HLEN.out
     have h2:=HLR.out
     simp only [moreN,if_true] at h2
     (rw [List.length_append,List.length_singleton];have:=(nameB_len HB2.out).1;omega)
    ·have h2:=HLR.out
     simp only [moreN,if_true] at h2
     simp only [strLen,ByteArray.size,Array.getD_eq_getD_getElem?]
     simp
     omega
   | false =>
    have hl:leftS (partsS s)=some (o++[p]):=by
     have e:=HF.out
     rw [HPF.out] at e
     simp only [moreL,Bool.false_eq_true,if_false] at e
     rw [List.foldl_cons,HST.out] at e
     exact e.symm
    have HL:=hide hl
    clear hl
    go_wp2_with (at_builtin;refine wpList_append_Rd _ rfl (.tmp 44) (.tmp 46) 129 rfl w.heap.size 9 _ 16 Tryz.underlying129 info_st rfl st_one _ n _ o rfl (HO3.out.alloc _) _ _ 1 1 _ rfl (Rd.one _ _ (show Value.string ⟨p.toArray⟩=st p from rfl)) (n+1) rfl (by omega) (by omega) (by have:=HB3.out.size;simp;omega) ?_;intro A4 c4 w4 hown4 hbel4;have HO4:=hide hown4;have HB4:=hide ((HB3.out.alloc HB3.out.size _).trans hbel4);clear hown4 hbel4)
    (first|go_ret2|(simp only [Exit.jump];go_ret2)|(rw [Exit.noGoto_ret];go_ret2))
    exact NRet.yes HH.out HL.out HO4.out HB4.out
 case _ =>
  intro hpass
  have HPASS:=hide hpass
  clear hpass
  go_wp2_with fail
  refine (HCP.out _).mono ?_
  rintro e w' ⟨rfl,rfl⟩
  go_wp2_with fail
  go_step3
  rename_i hK
  refine hK _ _ (HPASS.out _ _ ⟨r0,[],none,0,0,_,_,_,_,_,_,_,_,_,_,_,_,_,_,_,_,_,_,_,_,_,_,_,_,_,_,_,_,_,_,_,_,_,_,_,_,_,_,_,_,_,_,_,_,_,_,_,_,rfl,Ow.nil_ _ _ _ _,below_self _,?_,?_⟩)
  ·rw [HPF0.out];rfl
  ·have:=HL0.out;simpa using this
end Go.Proofs.YtpndfahgflgocaaGreatDoor

namespace Go.Proofs.YtpndfahgflgocaaGreatDoor
open Go.RowKit Plain

def StRet (w:World) (l:List UInt8) (b:Bool) (x:Ending) (w':World):Prop:=x=.returned (.tuple #[st l,.bool b])∧Below w.heap.size w w'
theorem StRet.of {w w':World} {l:List UInt8} {b:Bool} (h:Below w.heap.size w w'):StRet w l b (.returned (.tuple #[.string ⟨l.toArray⟩,.bool b])) w':=⟨rfl,h⟩

end Go.Proofs.YtpndfahgflgocaaGreatDoor

namespace Go.Proofs.YtpndfahgflgocaaGreatDoor
open Go.RowKit Plain

def LRet2 (w:World) (e:Nat) (l:List (List UInt8)) (a b:Bool) (x:Ending) (w':World):Prop :=
 ∃A n c,x=.returned (.tuple #[.slice A n c,.bool a,.bool b])∧Ow st w' w.heap.size e A n c l∧Below w.heap.size w w'
theorem LRet2.nil {w w':World} {e:Nat} {a b:Bool} (h:Below w.heap.size w w'):LRet2 w e [] a b (.returned (.tuple #[.slice none 0 0,.bool a,.bool b])) w':=⟨none,0,0,rfl,Ow.nil_ _ _ _ _,h⟩

end Go.Proofs.YtpndfahgflgocaaGreatDoor

namespace Go.Proofs.YtpndfahgflgocaaGreatDoor
open Go.RowKit Plain

theorem joinS_lib (l:List (List UInt8)):joinS l=47::Lib.join l [47]:=by
 induction l using snoc_ind with
 | h0=>rfl
 | h1 l x ih =>
  rw [joinS_snoc,ih]
  by_cases hl:l=[]
  ·subst hl
   simp [Lib.join,List.intercalate]
  ·rw [if_neg (by intro e;exact hl (List.eq_nil_of_length_eq_zero e))]
   obtain ⟨y,r,rfl⟩:∃y r,l=y::r:=by cases l with|nil=>exact absurd rfl hl|cons y r=>exact ⟨y,r,rfl⟩
   rw [Lib.join_cons,show (y::r)++[x]=y::(r++[x]) from rfl,Lib.join_cons]
   simp [Lib.joinTail]

set_option maxHeartbeats 400000 in
theorem PJoin_any {A:Option Addr} {m c:Nat} {l:List (List UInt8)} (w:World) (ha:Rd st w w.heap.size A m l) (hm:m≤2000000) (hmc:m≤c) (ht:totL l≤140737488355327) :
  Calls Tryz.prog 103 #[.slice A m c] w fun e w'=>e=.returned (st (joinS l))∧Below w.heap.size w w':=by
 have hjl:=joinS_length l
 rw [joinS_lib,List.length_cons] at hjl
 have hcon:∀w:World,Rd st w w.heap.size A m l→Calls Tryz.prog 128 #[.slice A m c,.string ⟨#[47]⟩] w fun e w'=>e=.returned (.string ⟨(Lib.join l [47]).toArray⟩)∧Below w.heap.size w w':=by
  intro w ha
  by_cases h0:m=0
  ·subst h0
   obtain rfl:l=[]:=List.eq_nil_of_length_eq_zero ha.len
   refine (Tryz.strings_Join_none A c ⟨#[47]⟩ w).mono ?_
   rintro e w' ⟨rfl,rfl⟩
   exact ⟨rfl,below_self _⟩
  ·obtain ⟨b,o,rfl,hb,hc⟩:=ha.2 (by omega)
   have hl:=ha.len
   have e1:(l.map fun x=>(⟨x.toArray⟩:ByteArray)).map (·.data.toList)=l:=by rw [List.map_map];exact List.map_id l
   have hlen:(l.map fun x=>(⟨x.toArray⟩:ByteArray)).length=m:=by simp [hl]
   have h:=Tryz.strings_Join b o c (l.map fun x=>⟨x.toArray⟩) ⟨#[47]⟩ w (fun j x hx=>by
    rw [List.getElem?_map,Option.map_eq_some_iff] at hx
    obtain ⟨y,hy,rfl⟩:=hx
    exact hc j y hy) hb (by omega) (by omega) (by rw [e1];show (Lib.join l [47]).length≤_;omega)
   rw [e1,hlen] at h
   exact h
 have HC:=hide hcon
 have HA:=hide ha
 have hadd:=fun W=>add_lists (P:=Tryz.prog) (x:=[47]) (y:=Lib.join l [47]) (z:=joinS l) (by simp;omega) (by rw [joinS_lib];rfl) W
 clear hcon ha hjl
 go_enter Tryz.func103,Tryz.ntmps103
 go_wp2_with fail
 refine (HC.out _ HA.out).mono ?_
 rintro e w1 ⟨rfl,hbel⟩
 have HB:=hide hbel
 clear hbel
 go_wp2_with fail
 go_ret
 exact ⟨rfl,HB.out⟩
theorem names_clean {s:List UInt8} (h:cleanB s=true):joinS (namesPt s)=cleanS s∧(namesPt s).all nameB=true∧(namesPt s).length≤1+s.length∧totL (namesPt s)≤(1+s.length)*(s.length+1):=by
 unfold cleanB at h
 rw [Bool.and_eq_true,Option.isSome_iff_exists] at h
 obtain ⟨hh,o,ho⟩:=h
 have e1:namesPt s=o:=by simp [namesPt,hh,ho]
 have e2:cleanS s=joinS o:=by unfold cleanS;rw [if_pos hh,ho]
 have hp:=partsS_len s
 have hl:=leftS_len _ _ ho
 have ht:=totL_le hp.2
 have hm:(partsS s).length*(s.length+1)≤(1+s.length)*(s.length+1):=Nat.mul_le_mul_right _ hp.1
 rw [e1,e2]
 exact ⟨rfl,left_all ho,by omega,by omega⟩
theorem split_iff (s:List UInt8):splitB s=(cleanB s&&(joinS (namesPt s)==s))∧splitS s=if splitB s=true then namesPt s else []:=by
 cases hc:cleanB s with
 | false =>
  have hs:splitB s=false:=by
   cases h:splitB s with
   | false=>rfl
   | true=>rw [(split_back h).2.1] at hc;cases hc
  refine ⟨by rw [hs];rfl,?_⟩
  rw [hs]
  unfold splitB at hs
  rw [Bool.or_eq_false_iff] at hs
  unfold splitS
  rw [if_neg (by simpa using hs.1),hs.2]
  rfl
 | true =>
  obtain ⟨hj,ha,_,_⟩:=names_clean hc
  by_cases he:joinS (namesPt s)=s
  ·obtain ⟨h1,h2⟩:=split_join ha
   rw [he] at h1 h2
   refine ⟨by rw [h1,he];simp,by rw [h1,if_pos rfl,h2]⟩
  ·have hs:splitB s=false:=by
    cases h:splitB s with
    | false=>rfl
    | true=>rw [hj] at he;exact absurd (split_back h).2.2 he
   have he2:(joinS (namesPt s)==s)=false:=by simpa using he
   refine ⟨by rw [hs,he2];rfl,?_⟩
   rw [hs]
   unfold splitB at hs
   rw [Bool.or_eq_false_iff] at hs
   unfold splitS
   rw [if_neg (by simpa using hs.1),hs.2]
   rfl

theorem mul_small {n:Nat} (h:n≤1100000):(1+n)*(n+1)≤1210002200001:=by
 have:(1+n)*(n+1)≤1100001*1100001:=Nat.mul_le_mul (by omega) (by omega)
 omega

set_option maxHeartbeats 800000 in
theorem PSplit_any {s:List UInt8} (w:World) (hs:s.length≤1100000):Calls Tryz.prog 196 #[st s] w (LRet w 9 (splitS s) (splitB s)):=by
 unfold st
 obtain ⟨q1,q2⟩:=split_iff s
 rw [q2]
 cases hc:cleanB s with
 | false =>
  rw [hc] at q1
  have hb:splitB s=false:=q1
  rw [hb]
  have HC:=hide hc
  clear q1 q2 hb hc
  go_enter Tryz.func196,Tryz.ntmps196
  go_wp2_with fail
  refine (names_any _ (by omega)).mono ?_
  rw [HC.out]
  rintro e w1 ⟨A1,n1,c1,rfl,hown,hbel⟩
  have HB:=hide hbel
  clear hown hbel
  go_wp2_with fail
  go_ret2
  exact LRet.nil HB.out
 | true =>
  obtain ⟨_,_,hn,ht⟩:=names_clean hc
  have hms:=mul_small hs
  rw [hc,Bool.true_and] at q1
  rw [q1]
  obtain ⟨l,hl⟩:∃l,namesPt s=l:=⟨_,rfl⟩
  rw [hl] at hn ht ⊢
  obtain ⟨j,hj⟩:∃j,joinS l=j:=⟨_,rfl⟩
  rw [hj]
  have HC:=hide hc
  have HL:=hide hl
  have HJ:=hide hj
  have HN:=hide hn
  have HT:=hide (Nat.le_trans ht hms)
  clear hc hl hj hn ht q1 q2 hms
  by_cases hjs:j=s
  ·have d1:(j != s)=false:=by simp [hjs]
   have d2:(j==s)=true:=by simp [hjs]
   rw [d2]
   clear hjs
   go_enter Tryz.func196,Tryz.ntmps196
   go_wp2_with fail
   refine (names_any _ (by omega)).mono ?_
   rw [HC.out,HL.out]
   rintro e w1 ⟨A1,n1,c1,rfl,hown,hbel⟩
   have HO:=hide hown
   have HB:=hide hbel
   have hnn:=hown.len
   have hcap:=hown.cap
   have HNN:=hide hnn
   clear hown hbel hnn
   go_wp2_with fail
   refine (PJoin_any _ HO.out.rd (by have:=HN.out;have:=HNN.out;omega) hcap (by have:=HT.out;omega)).mono ?_
   rw [HJ.out]
   unfold st
   rintro e w2 ⟨rfl,hbel⟩
   have HB2:=hide (below_step HB.out hbel)
   have HO2:=hide (HO.out.below hbel)
   clear hbel
   go_wp2_with fail
   go_ret2
   exact ⟨_,_,_,rfl,HO2.out,HB2.out⟩
  ·have d1:(j != s)=true:=by simpa using hjs
   have d2:(j==s)=false:=by simpa using hjs
   rw [d2]
   have d3:¬j=s:=hjs
   clear hjs
   go_enter Tryz.func196,Tryz.ntmps196
   go_wp2_with fail
   refine (names_any _ (by omega)).mono ?_
   rw [HC.out,HL.out]
   rintro e w1 ⟨A1,n1,c1,rfl,hown,hbel⟩
   have HO:=hide hown
   have HB:=hide hbel
   have hnn:=hown.len
   have hcap:=hown.cap
   have HNN:=hide hnn
   clear hown hbel hnn
   go_wp2_with fail
   refine (PJoin_any _ HO.out.rd (by have:=HN.out;have:=HNN.out;omega) hcap (by have:=HT.out;omega)).mono ?_
   rw [HJ.out]
   unfold st
   rintro e w2 ⟨rfl,hbel⟩
   have HB2:=hide (below_step HB.out hbel)
   clear hbel
   go_wp2_with fail
   go_ret2
   exact LRet.nil HB2.out

end Go.Proofs.YtpndfahgflgocaaGreatDoor

namespace Go.Proofs.YtpndfahgflgocaaGreatDoor
open Go.RowKit Plain

theorem name_head {s:List UInt8} (h:nameB s=true):headB s=false:=by
 cases s with
 | nil=>rfl
 | cons c r =>
  have:=nameB_noslash h c List.mem_cons_self
  simpa [headB] using this
theorem red_no {s:List UInt8} (h1:headB s=false):splitB s=false∧splitS s=[]:=by
 have hne:s≠[47]:=by rintro rfl;simp [headB] at h1
 have hne2:(s==[47])=false:=by simpa using hne
 refine ⟨by unfold splitB;rw [hne2,h1];rfl,by unfold splitS;rw [if_neg hne,h1];rfl⟩
theorem red_split {s:List UInt8} (h:¬24 < s.length) (hn:nameB s=false):redL s=splitS s∧redA s=splitB s∧redB s=splitB s:=by
 unfold redL redA redB
 rw [if_neg h,if_neg h,if_neg h]
 cases hh:headB s with
 | true=>exact ⟨rfl,rfl,rfl⟩
 | false=>obtain ⟨a,b⟩:=red_no hh;rw [a,b,hn];exact ⟨rfl,rfl,rfl⟩
theorem red_name {s:List UInt8} (h:¬24 < s.length) (hn:nameB s=true):redL s=[s]∧redA s=false∧redB s=true:=by
 unfold redL redA redB
 rw [if_neg h,if_neg h,if_neg h,name_head hn,hn]
 exact ⟨rfl,rfl,rfl⟩

set_option maxHeartbeats 400000 in
theorem PRed_any {s:List UInt8} (w:World) (hs:s.length≤100000):Calls Tryz.prog 181 #[st s] w (LRet2 w 9 (redL s) (redA s) (redB s)):=by
 unfold st
 by_cases h:24 < s.length
 ·rw [show redL s=[] from by simp [redL,h],show redA s=false from by simp [redA,h],show redB s=false from by simp [redB,h]]
  have hd:decide ((24:Int) < (s.length:Int))=true:=by simp;omega
  go_enter Tryz.func181,Tryz.ntmps181
  go_wp2_with fail
  go_ret3
  exact LRet2.nil (below_self w)
 have hd:decide ((24:Int) < (s.length:Int))=false:=by simp;omega
 cases hn:nameB s with
 | true =>
  obtain ⟨e1,e2,e3⟩:=red_name h hn
  rw [e1,e2,e3]
  have HN:=hide hn
  clear e1 e2 e3 hn h
  go_enter Tryz.func181,Tryz.ntmps181
  go_wp2_with fail
  refine (NRight_b HN.out _ (by omega)).mono ?_
  rintro e w1 ⟨rfl,hbel⟩
  have HB:=hide hbel
  clear hbel
  go_wp2_with fail
  go_ret3
  exact ⟨_,_,_,rfl,(Ow.lit w1 9 (f:=st) (cs:=[.string ⟨s.toArray⟩]) (l:=[s]) (n:=1) rfl rfl (by decide)).rebase HB.out.size,below_new HB.out _⟩
 | false =>
  obtain ⟨e1,e2,e3⟩:=red_split h hn
  rw [e1,e2,e3]
  obtain ⟨l,hl⟩:∃l,splitS s=l:=⟨_,rfl⟩
  obtain ⟨b,hb⟩:∃b,splitB s=b:=⟨_,rfl⟩
  rw [hl,hb]
  have HN:=hide hn
  have HL:=hide hl
  have HBB:=hide hb
  clear e1 e2 e3 hn h hl hb
  go_enter Tryz.func181,Tryz.ntmps181
  go_wp2_with fail
  refine (NRight_b HN.out _ (by omega)).mono ?_
  rintro e w1 ⟨rfl,hbel⟩
  have HB:=hide hbel
  clear hbel
  go_wp2_with fail
  refine (PSplit_any _ (by omega)).mono ?_
  rw [HL.out,HBB.out]
  rintro e w2 ⟨A2,n2,c2,rfl,hown,hbel⟩
  have HO:=hide (hown.rebase HB.out.size)
  have HB2:=hide (below_step HB.out hbel)
  clear hown hbel
  go_wp2_with fail
  go_ret3
  exact ⟨_,_,_,rfl,HO.out,HB2.out⟩

end Go.Proofs.YtpndfahgflgocaaGreatDoor

