import Derived.Test.YtpndfahgflgocaaGreatDoorXt14

namespace Go.Proofs.YtpndfahgflgocaaGreatDoor
open Go.RowKit Go.Shelf Plain Go.WideShapes Go.ChangeShapes

section
variable {α H : Type} {enc : TypeId × Value → H} {P : Program} {w : World} {spare : Nat → Bool} {held : Bool}
theorem open_rdeF {t e : TypeId} {fuel : Nat} {cs : List Value} {x : DataW H × List MemPlace} (E : Enc α) (Fine : α → Prop) (ht : P.underlying t = some (.slice e)) (hc : P.cellsOf e = E.k) (hk : 0 < E.k)
  (hel:∀n cs y,cs.length=E.k→DataW.trod enc P w 0 spare held n e cs=some y→∃x,E.R w (Under w.heap.size) cs x∧Fine x)
  (h:DataW.trod enc P w 0 spare held fuel t cs=some x):∃A n c l,cs=[.slice A n c]∧n≤c∧c≤maxLen∧RdE E w (Under w.heap.size) A n l∧∀x∈l,Fine x:=by
 rcases DataW.trod_slice ht h with ⟨rfl,-⟩|⟨a,len,cap,elems,rest,n,-,rfl,hx,-,hl,hcm,hlen,hcel,-,-⟩
 ·exact ⟨_,_,_,[],rfl,Nat.le_refl _,by simp [maxLen],RdE.none_ _ _ _ _,fun x hx=>by cases hx⟩
 ·have each:∀i,i < len→∃y,∃cs,w.cells? 0 (a.add (i*E.k)) E.k=some cs∧E.R w (Under w.heap.size) cs y∧Fine y:=by
   intro i hi
   have h1:=hcel i hi
   rw [hc,List.getElem?_eq_getElem (by omega),Option.bind_eq_some_iff] at h1
   obtain ⟨cs',hcs,hy⟩:=h1
   obtain ⟨x,hx,hf⟩:=hel _ _ _ (World.cells?_some hcs).2.1 hy
   exact ⟨x,cs',hcs,hx,hf⟩
  refine ⟨_,_,_,List.ofFn (fun i:Fin len=>Classical.choose (each i.1 i.2)),rfl,hl,hcm,⟨by simp,fun hn=>?_⟩,fun y hy=>?_⟩
  ·obtain ⟨y,cs0,hcs0,-⟩:=each 0 hn
   obtain ⟨-,hl0,h0⟩:=World.cells?_some hcs0
   have hcell0:=h0 0 hk
   rw [List.getElem?_eq_getElem (by omega)] at hcell0
   obtain ⟨b,off,spot⟩:=a
   have hspot:spot=none:=by simpa [Addr.add] using World.cell?_spot hcell0
   subst hspot
   have hadd:∀o i,(⟨b,o,none⟩:Addr).add i=⟨b,o+i,none⟩:=by
    intro o i
    unfold Addr.add
    split
    ·rename_i h0;subst h0;rfl
    ·rfl
   refine ⟨b,off,rfl,?_,fun i y hy=>?_⟩
   ·have:=block_lt_of_cell hcell0
    rw [hadd,hadd] at this
    exact this
   ·rw [List.getElem?_ofFn] at hy
    split at hy
    ·next hi =>
     obtain rfl:=Option.some.inj hy
     obtain ⟨cs,hcs,hr,-⟩:=Classical.choose_spec (each i hi)
     obtain ⟨-,hl1,h1⟩:=World.cells?_some hcs
     refine ⟨cs,hr,fun j v hj=>?_⟩
     have hjl:=(List.getElem?_eq_some_iff.1 hj).1
     have:=h1 j (by omega)
     rw [hadd,hadd,hj] at this
     rw [←this,Nat.add_assoc]
    ·cases hy
  ·rw [List.mem_ofFn] at hy
   obtain ⟨i,rfl⟩:=hy
   obtain ⟨cs,-,-,hf⟩:=Classical.choose_spec (each i.1 i.2)
   exact hf
end
section
variable {H : Type} {enc : TypeId × Value → H} {w : World} {spare : Nat → Bool} {held : Bool}
theorem cell_u8 {n:Nat} {c:Value} {y:DataW H×List MemPlace} (h:DataW.trod enc Tryz.prog w 0 spare held n 5 [c]=some y):∃b:UInt8,c=bv b:=by
 obtain ⟨a,e,hy,hw⟩:=DataW.trod_int Tryz.underlying5 h
 have hr:0≤a∧a≤255:=by
  simp [Lit.wf,IntKind.min,IntKind.max,IntKind.signed,IntKind.bits] at hw
  omega
 refine ⟨UInt8.ofNat a.toNat,?_⟩
 have:c=.int .u8 a:=by simpa using e
 rw [this]
 simp only [bv]
 congr 1
 simp
 omega
theorem one_cell {l:List Value} (h:l.length=1):∃c,l=[c]:=by
 match l,h with
 | [c],_=>exact ⟨c,rfl⟩
theorem thirteen {l:List Value} (h:l.length=13):∃a b c d e f g h i j k m n,l=[a,b,c,d,e,f,g,h,i,j,k,m,n]:=by
 match l,h with
 | [a,b,c,d,e,f,g,h,i,j,k,m,n],_=>exact ⟨a,b,c,d,e,f,g,h,i,j,k,m,n,rfl⟩
set_option maxRecDepth 100000 in
theorem trod_ent {fuel:Nat} {cs:List Value} {y:DataW H×List MemPlace} (hl:cs.length=3) (h:DataW.trod enc Tryz.prog w 0 spare held fuel 31 cs=some y):∃x:EntV,cs=cellsE x:=by
 obtain ⟨c0,c1,c2,rfl⟩:=three hl
 obtain ⟨xs,n,-,rfl,-,hlen,hp⟩:=DataW.trod_struct Tryz.underlying31 h
 match xs,hlen,hp with
 | [x0,x1,x2],_,hp =>
  obtain ⟨a0,rfl⟩:=cell_i64 (c:=c0) (hp 0 _ rfl)
  obtain ⟨a1,rfl⟩:=cell_i64 (c:=c1) (hp 1 _ rfl)
  obtain ⟨a2,rfl⟩:=cell_str (c:=c2) (hp 2 _ rfl)
  exact ⟨⟨a0,a1,a2⟩,rfl⟩
set_option maxRecDepth 100000 in
theorem trod_node {fuel:Nat} {cs:List Value} {y:DataW H×List MemPlace} (hl:cs.length=13) (h:DataW.trod enc Tryz.prog w 0 spare held fuel 51 cs=some y):∃x:NodV,NodR w (Under w.heap.size) cs x∧x.ents.length≤maxLen:=by
 obtain ⟨c0,c1,c2,c3,c4,c5,c6,c7,c8,c9,c10,c11,c12,rfl⟩:=thirteen hl
 obtain ⟨xs,n,-,-,-,hlen,hp⟩:=DataW.trod_struct Tryz.underlying51 h
 match xs,hlen,hp with
 | [x0,x1,x2,x3,x4,x5,x6],_,hp =>
  have p6:=hp 6 _ rfl
  obtain ⟨a0,rfl⟩:=cell_i64 (c:=c0) (hp 0 _ rfl)
  obtain ⟨a1,rfl⟩:=cell_i64 (c:=c1) (hp 1 _ rfl)
  obtain ⟨a2,rfl⟩:=cell_i64 (c:=c2) (hp 2 _ rfl)
  obtain ⟨a3,rfl⟩:=cell_i64 (c:=c3) (hp 3 _ rfl)
  obtain ⟨A,n1,d1,l1,e1,hn1,-,r1,-⟩:=open_rdeF (e:=5) (cs:=[c4]) Enc.byte (fun _=>True) Tryz.underlying44 (by kernel_rfl) (by decide) (fun _ cs _ hl hy=>by
   obtain ⟨c,rfl⟩:=one_cell hl
   obtain ⟨b,rfl⟩:=cell_u8 hy
   exact ⟨b,rfl,trivial⟩) (hp 4 _ rfl)
  obtain ⟨C,n2,d2,l2,e2,hn2,hm2,r2,-⟩:=open_rdeF (e:=31) (cs:=[c5]) entEn (fun _=>True) Tryz.underlying45 (by kernel_rfl) (by decide) (fun _ cs _ hl hy=>by
   obtain ⟨x,rfl⟩:=trod_ent hl hy
   exact ⟨x,⟨[_],[_,_],rfl,rfl,[_],[_],rfl,rfl,rfl⟩,trivial⟩) (hp 5 _ rfl)
  obtain ⟨ys,m,-,-,-,hyl,hq⟩:=DataW.trod_struct Tryz.underlying49 (cs:=[c6,c7,c8,c9,c10,c11,c12]) p6
  match ys,hyl,hq with
  | [y0,y1,y2,y3,y4],_,hq =>
   have q3:=hq 3 _ rfl
   obtain ⟨b0,rfl⟩:=cell_i64 (c:=c6) (hq 0 _ rfl)
   obtain ⟨b1,rfl⟩:=cell_i64 (c:=c7) (hq 1 _ rfl)
   obtain ⟨b2,rfl⟩:=cell_str (c:=c8) (hq 2 _ rfl)
   obtain ⟨b6,rfl⟩:=cell_i64 (c:=c12) (hq 4 _ rfl)
   obtain ⟨zs,k,-,-,-,hzl,hs⟩:=DataW.trod_struct Tryz.underlying47 (cs:=[c9,c10,c11]) q3
   match zs,hzl,hs with
   | [z0,z1,z2],_,hs =>
    obtain ⟨b3,rfl⟩:=cell_i64 (c:=c9) (hs 0 _ rfl)
    obtain ⟨b4,rfl⟩:=cell_i64 (c:=c10) (hs 1 _ rfl)
    obtain ⟨b5,rfl⟩:=cell_i64 (c:=c11) (hs 2 _ rfl)
    cases e1
    cases e2
    refine ⟨⟨a0,a1,a2,a3,l1,l2,⟨b0,b1,b2,b3,b4,b5,b6⟩⟩,⟨A,n1,d1,C,n2,d2,rfl,hn1,r1,hn2,r2⟩,?_⟩
    show l2.length≤maxLen
    rw [r2.1]
    omega
end
end Go.Proofs.YtpndfahgflgocaaGreatDoor

namespace Go.Proofs.YtpndfahgflgocaaGreatDoor
open Go.RowKit Go.Shelf Plain

def UpW (ff:List Int) (l:List WayV):Prop:=∀(j:Nat) (y:WayV),l[j]?=some y→y.up < (j:Int)∧(y.up < 0→y.ino∈ff)
theorem UpW.snoc {ff:List Int} {l:List WayV} {x:WayV} (h:UpW ff l) (hx:x.up < (l.length:Int)∧(x.up < 0→x.ino∈ff)):UpW ff (l++[x]):=by
 intro j y hy
 by_cases hj:j < l.length
 ·rw [List.getElem?_append_left hj] at hy
  exact h j y hy
 ·rw [List.getElem?_append_right (by omega)] at hy
  have hj0:j - l.length=0:=by have:=(List.getElem?_eq_some_iff.1 hy).1;simpa using this
  rw [hj0] at hy
  cases hy
  exact ⟨by omega,hx.2⟩
theorem plain_many {ns:List NodV} (h:ns.length≤24) (hp:∀x∈ns,PlainN x):Many ns∧∀x∈ns,x.data.length≤1000 :=
 ⟨⟨h,fun x hx=>(hp x hx).2.2.2.2.1⟩,fun x hx=>by have:=(hp x hx).2.2.2.1;omega⟩
end Go.Proofs.YtpndfahgflgocaaGreatDoor

namespace Go.Proofs.YtpndfahgflgocaaGreatDoor
open Go.RowKit Go.Shelf Plain

set_option maxRecDepth 100000 in
set_option maxHeartbeats 1600000 in
theorem place_any {A:Option Addr} {n c:Nat} {l:List WayV} {i:Int} (w:World) (h:RdE wayEn w (Under w.heap.size) A n l) (hn:n≤100000) :
  Calls Tryz.prog 97 #[.slice A n c,.int .i64 i] w (fun e w'=>∃r:Int,e=.returned (.int .i64 r)∧w=w'∧decide (0≤r)=cameW l i):=by
 have H:=hide h
 have hl:=h.1
 clear h
 go_enter Tryz.func97,Tryz.ntmps97
 go_wp2
 go_loopw [5] (fun iv wr=>∃j:Nat,j≤n∧iv=.int .i64 j∧wr=w∧cameW (l.take j) i=false) (fun iv _=>n - (intOf iv).toNat)
 case atStart=>exact ⟨0,by omega,rfl,rfl,by simp [cameW]⟩
 case round =>
  obtain ⟨j,hj,rfl,hwr,hc⟩:=hrel
  subst hwr
  have HC:=hide hc
  clear hc
  by_cases hlt:j < n
  ·obtain ⟨y,hy⟩:∃y,l[j]?=some y:=⟨_,List.getElem?_eq_getElem (by omega)⟩
   obtain ⟨b,o,rfl,-,hcy⟩:=way_get H.out hy
   have q:wr.cell? ⟨b,o+j*3,none⟩=some (.int .i64 y.ino):=hcy 0 _ rfl
   have HY:=hide hy
   clear hcy hy
   by_cases e:y.ino=i
   ·have he:(y.ino==i)=true:=by simpa using e
    have hca:cameW l i=true:=came_iff.2 ⟨y,List.mem_of_getElem? HY.out,e⟩
    have HCA:=hide hca
    clear e hca
    go_wp2
    go_ret
    exact ⟨(j:Int),rfl,rfl,by rw [HCA.out];simp⟩
   ·have he:(y.ino==i)=false:=by simpa using e
    have hst:cameW (l.take (j+1)) i=false:=by
     have:=HC.out
     unfold cameW at this ⊢
     rw [List.take_add_one,HY.out,List.any_append,this]
     simpa using e
    have HST:=hide hst
    clear e hst
    go_wp2
    go_roundw
    case rel=>exact ⟨j+1,by omega,by go_num,(by first|rfl|trivial),HST.out⟩
    case measure=>simp [intOf];omega
  ·obtain rfl:j=n:=by omega
   have hca:cameW l i=false:=by have:=HC.out;rwa [List.take_of_length_le (by omega)] at this
   go_wp2
   go_ret
   exact ⟨-1,rfl,rfl,by rw [hca];rfl⟩
theorem own_lit0 (w:World) (e s:Nat) {B base:Nat} (h:w.heap.size=B) (hb:base≤B):(w.alloc (.cells #[] e)).ownsRow base e s (.slice (some ⟨B,0,none⟩) 0 0) 0 []:=by
 subst h
 have h:(w.alloc (.cells #[] e)).ownsRow w.heap.size e s (.slice (some ⟨w.heap.size,0,none⟩) 0 0) 0 []:=World.ownsRow_lit w #[] 0 (Nat.le_refl _) (by simp [maxLen]) (by simp)
 refine ⟨h.1,?_⟩
 rcases h.2 with h1|⟨g,cap,cur,h1,h2,h3⟩
 ·exact .inl h1
 ·exact .inr ⟨g,cap,cur,h1,Nat.le_trans hb h2,h3⟩
def entsW (ns:List NodV) (d:Int) (p:Nat) (s:StW) (l:List EntV) (i:Nat):StW:=((l.zipIdx.take i).filter (fun x=>isDir ns x.1.ino)).foldl (oneW d p) s
theorem entsW_zero (ns:List NodV) (d:Int) (p:Nat) (s:StW) (l:List EntV):entsW ns d p s l 0=s:=by simp [entsW]
theorem entsW_succ {ns:List NodV} {d:Int} {p:Nat} {s:StW} {l:List EntV} {i:Nat} {x:EntV} (h:l[i]?=some x):entsW ns d p s l (i+1)=if isDir ns x.ino=true then oneW d p (entsW ns d p s l i) (x,i) else entsW ns d p s l i:=by
 have hz:l.zipIdx[i]?=some (x,i):=by rw [List.getElem?_zipIdx,h];simp
 unfold entsW
 rw [List.take_add_one,hz,List.filter_append,List.foldl_append]
 cases hd:isDir ns x.ino <;> simp [hd]
theorem entsW_pre {ns:List NodV} {d:Int} {p:Nat} {s:StW} {l:List EntV} {i:Nat}:s.1 <+: (entsW ns d p s l i).1:=by
 unfold entsW
 exact foldl_keep (P:=fun t:StW=>s.1 <+: t.1) _ _ (List.prefix_refl _) (fun _ _ _ hs=>hs.trans one_pre)
theorem entsW_ok {ns:List NodV} {d:Int} {p:Nat} {s:StW} {l:List EntV} {i:Nat} (h:OkW ns s.1):OkW ns (entsW ns d p s l i).1:=by
 unfold entsW
 exact foldl_keep (P:=fun t:StW=>OkW ns t.1) _ _ h (fun _ x hx hs=>one_ok hs (List.mem_filter.1 hx).2)
theorem entsW_tw {ns:List NodV} {d:Int} {p:Nat} {s:StW} {l:List EntV} {i:Nat}:(entsW ns d p s l i).2.length≤s.2.length+l.length:=by
 unfold entsW
 have h1:=fold_tw d p ((l.zipIdx.take i).filter (fun x=>isDir ns x.1.ino)) s
 have h2:((l.zipIdx.take i).filter (fun x=>isDir ns x.1.ino)).length≤l.length:=Nat.le_trans (List.length_filter_le _ _) (by rw [List.length_take,List.length_zipIdx];omega)
 omega
theorem entsW_all {ns:List NodV} {p:Nat} {s:StW} {y:WayV} (h:s.1[p]?=some y):entsW ns y.ino p s (nodAt ns y.ino).ents (nodAt ns y.ino).ents.length=visitW ns p s:=by
 unfold entsW visitW
 rw [List.take_of_length_le (by simp),h]
 rfl
set_option maxRecDepth 100000 in
set_option maxHeartbeats 1600000 in
theorem At_anyB {A:Option Addr} {B:Nat} {n c:Nat} {ns:List NodV} {i:Int} (w:World) (h:RdE nodEn w (Under B) A n ns) (hB:B≤w.heap.size) (hm:ns.length≤100000):Calls Tryz.prog 31 #[.agg #[.slice A n c],.int .i64 i] w (NodRet w B (nodAt ns i)):=by
 have hl:=h.1
 obtain ⟨rz0,rz,hbz,-⟩:=rows2 w [.slice A n c] (nodC nod0 (.slice none 0 0) (.slice none 0 0)) 26 51
 have HZ:=hide rz
 have HB:=hide hbz
 have qb:((w.alloc (.cells [Value.slice A n c].toArray 26)).alloc (.cells (nodC nod0 (.slice none 0 0) (.slice none 0 0)).toArray 51)).cell? ⟨w.heap.size,0,none⟩=some (.slice A n c):=rz0.cell 0
 have hN:=h
 by_cases h1:i < 1
 ·have e:nodAt ns i=nod0:=nodAt_out (by omega)
  have d1:decide (i < 1)=true:=by simpa using h1
  rw [e]
  clear h hN rz rz0 hbz e
  go_enter Tryz.func31,Tryz.ntmps31
  go_wp2_with (refine wpList_storeW rfl 51 (.tmp 4) (.tmp 14) rfl 13 nod_size (w.heap.size+1) 51 rfl (nodC nod0 (.slice none 0 0) (.slice none 0 0)) (nodC nod0 (.slice none 0 0) (.slice none 0 0)) rfl HZ.out rfl rfl (nodC_one nod0 none none 0 0 0 0) ?_;intro w9 hr9 hg9 hs9;have HR9:=hide hr9;have HB9:=hide (HB.out.grown hg9 HB.out.size (pu4 (by omega)));clear hr9 hg9 hs9)
  exact bodyPost_ret (res_cell Tryz.results31 rfl nod_agg nod_size HR9.out rfl) rfl (NodRet.of (Nat.le_refl _) (RdE.none_ _ _ _ _) (Nat.le_refl _) (RdE.none_ _ _ _ _) HB9.out hB)
 ·have d1:decide (i < 1)=false:=by simpa using h1
  by_cases h2:(n:Int) < i
  ·have e:nodAt ns i=nod0:=nodAt_out (by omega)
   have d2:decide ((n:Int) < i)=true:=by simpa using h2
   rw [e]
   clear h hN rz rz0 hbz e
   go_enter Tryz.func31,Tryz.ntmps31
   go_wp2_with (refine wpList_storeW rfl 51 (.tmp 4) (.tmp 14) rfl 13 nod_size (w.heap.size+1) 51 rfl (nodC nod0 (.slice none 0 0) (.slice none 0 0)) (nodC nod0 (.slice none 0 0) (.slice none 0 0)) rfl HZ.out rfl rfl (nodC_one nod0 none none 0 0 0 0) ?_;intro w9 hr9 hg9 hs9;have HR9:=hide hr9;have HB9:=hide (HB.out.grown hg9 HB.out.size (pu4 (by omega)));clear hr9 hg9 hs9)
   exact bodyPost_ret (res_cell Tryz.results31 rfl nod_agg nod_size HR9.out rfl) rfl (NodRet.of (Nat.le_refl _) (RdE.none_ _ _ _ _) (Nat.le_refl _) (RdE.none_ _ _ _ _) HB9.out hB)
  ·have d2:decide ((n:Int) < i)=false:=by simpa using h2
   obtain ⟨j,x,rfl,hx,e⟩:=nodAt_in (ns:=ns) (i:=i) (by omega)
   rw [e]
   obtain ⟨b,o,cs,rfl,hbB,hNd,hcell⟩:=hN.get_nod hx
   have hjn:j < n:=by omega
   have hcell1:=fun j' v (hv:cs[j']?=some v)=>(hbz.cell (p:=⟨b,o+j*13+j',none⟩) (Nat.lt_of_lt_of_le hbB hB)).trans (hcell j' v hv)
   obtain ⟨A1,n1,c1,C1,m1,d1',rfl,e2,e3,e4,e5⟩:=hNd
   have HC:=hide hcell1
   have E3:=hide e3
   have E5:=hide e5
   have hw1:IntKind.i64.wrap ((j:Int)+1 - 1)=(j:Int):=by rw [show (j:Int)+1 - 1=j from by omega];exact IntWalk.i64_in _ (by omega)
   have hw2:IntKind.i64.wrap (j:Int)=(j:Int):=IntWalk.i64_in _ (by omega)
   clear h hN rz rz0 hbz e hcell hcell1 e3 e5 hx h1 h2
   go_enter Tryz.func31,Tryz.ntmps31
   go_wp2_with (first|(refine wpList_loadX rfl 51 (.tmp 19) rfl 13 nod_agg nod_size b (o+j*13) rfl (nodC x (.slice A1 n1 c1) (.slice C1 m1 d1')) HC.out rfl ?_)|(refine wpList_storeW rfl 51 (.tmp 4) (.tmp 20) rfl 13 nod_size (w.heap.size+1) 51 rfl (nodC nod0 (.slice none 0 0) (.slice none 0 0)) (nodC x (.slice A1 n1 c1) (.slice C1 m1 d1')) rfl HZ.out rfl rfl (nodC_one x A1 C1 n1 c1 m1 d1') ?_;intro w9 hr9 hg9 hs9;have HR9:=hide hr9;have HB9:=hide (HB.out.grown hg9 HB.out.size (pu4 (by omega)));clear hr9 hg9 hs9))
   exact bodyPost_ret (res_cell Tryz.results31 rfl nod_agg nod_size HR9.out rfl) rfl (NodRet.of e2 E3.out e4 E5.out HB9.out hB)
theorem two_way {B:Nat} {W0 wr w9:World} {v6 v7:Value} {n6 n7 e6 e7 s6 s7:Nat} {L6 L7 cs:List Value} {t:Nat} (ho6:wr.ownsRow B e6 s6 v6 n6 L6) (ho7:wr.ownsRow B e7 s7 v7 n7 L7) (he:e6≠e7) (hb:Below B W0 wr) (hB:B≤wr.heap.size) (hg:(wr.alloc (.cells cs.toArray t)).grownBy w9 v6.ownBlock):w9.ownsRow B e7 s7 v7 n7 L7∧Below B W0 w9:=by
 have ha:=below_new (below_self wr) (.cells cs.toArray t)
 have h6:=ownsRow_below ho6 ha
 have h7:=ownsRow_below ho7 ha
 exact ⟨h7.kept hg (owns_apart h6 h7 he),(hb.trans (ha.mono hB)).grown hg (by have:=ha.size;omega) (fun q hq=>(own_block h6 q hq).1)⟩
end Go.Proofs.YtpndfahgflgocaaGreatDoor

