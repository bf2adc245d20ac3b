import Derived.Test.YtpndfahgflgocaaGreatDoorXt7

namespace Go.Proofs.YtpndfahgflgocaaGreatDoor
open Go.RowKit Go.Shelf Plain
attribute [local go_sem] Oper.semAt_some

def KpN (B g:Nat) (ns:List NodV) (m1 m2:Nat) (W W':World):Prop:=(∀k,k < B→W'.heap[k]?=W.heap[k]?)∧(WkN W B g ns→WkN W' B g ns)∧W'.cell? ⟨m1,0,none⟩=W.cell? ⟨m1,0,none⟩∧W'.cell? ⟨m2,0,none⟩=W.cell? ⟨m2,0,none⟩∧W.heap.size≤W'.heap.size
section
variable {B g m1 m2 : Nat} {ns : List NodV} {U V W : World}
theorem kpN_t (h:KpN B g ns m1 m2 U V) (k:KpN B g ns m1 m2 V W):KpN B g ns m1 m2 U W:=⟨fun i hi=>(k.1 i hi).trans (h.1 i hi),fun hh=>k.2.1 (h.2.1 hh),k.2.2.1.trans h.2.2.1,k.2.2.2.1.trans h.2.2.2.1,Nat.le_trans h.2.2.2.2 k.2.2.2.2⟩
theorem kpN_below {n:Nat} (hB:B≤n) (hg:g < n) (h1:m1 < n) (h2:m2 < n) (h:Below n U V):KpN B g ns m1 m2 U V:=⟨fun i hi=>h.block i (by omega),fun hh=>by
 obtain ⟨A,m,c,h3,h4⟩:=hh
 exact ⟨A,m,c,(h.cell (p:=⟨g,0,none⟩) hg).trans h3,h4.mono (fun b hb=>h.block b (Nat.lt_of_lt_of_le hb hB)) (fun _ h=>h)⟩,h.cell (p:=⟨m1,0,none⟩) h1,h.cell (p:=⟨m2,0,none⟩) h2,h.size⟩
theorem WkN.kp (h:WkN U B g ns) (k:KpN B g ns m1 m2 U V):WkN V B g ns:=k.2.1 h
end
abbrev DirE (ns:List NodV) (l:List EntV):={x:EntV×Nat // x∈dirsOf ns l}
def encN {ns:List NodV} {l:List EntV} (x:DirE ns l):Array Value:=#[.int .i64 (x.1.2:Int),.agg (cellsE x.1.1).toArray]
def dirsK (ns:List NodV) (l:List EntV) (k:Nat):List (EntV×Nat):=(l.zipIdx.take k).filter (fun x=>isDir ns x.1.ino)
theorem dirsK_all {ns:List NodV} {l:List EntV} {k:Nat} (h:l.length≤k):dirsK ns l k=dirsOf ns l:=by
 unfold dirsK dirsOf
 rw [List.take_of_length_le (by simpa using h)]
theorem dirsK_succ {ns:List NodV} {l:List EntV} {k:Nat} {x:EntV} (h:l[k]?=some x):dirsK ns l (k+1)=if isDir ns x.ino=true then dirsK ns l k++[(x,k)] else dirsK ns l k:=by
 have hk:=(List.getElem?_eq_some_iff.1 h).1
 have hz:l.zipIdx[k]?=some (x,k):=by rw [List.getElem?_zipIdx,h];simp
 unfold dirsK
 rw [List.take_add_one,hz,List.filter_append]
 split
 ·rename_i hd
  simp [hd]
 ·rename_i hd
  simp [hd]
theorem dirsK_mem {ns:List NodV} {l:List EntV} {k:Nat} {x:EntV} (h:l[k]?=some x) (hd:isDir ns x.ino=true):(x,k)∈dirsOf ns l:=by
 unfold dirsOf
 refine List.mem_filter.2 ⟨List.mem_zipIdx_iff_getElem?.2 h,hd⟩
theorem dirsK_len {ns:List NodV} {l:List EntV} {k:Nat} {x:EntV} (h:l[k]?=some x) (hd:isDir ns x.ino=true):(dirsK ns l k).length < (dirsOf ns l).length:=by
 have h1:(dirsK ns l (k+1)).length≤(dirsOf ns l).length:=by
  unfold dirsK dirsOf
  exact ((List.take_sublist _ _).filter _).length_le
 rw [dirsK_succ h,if_pos hd,List.length_append] at h1
 simp at h1
 omega
set_option maxRecDepth 100000 in
theorem entw_agg:∀w,(isAgg 31).run Tryz.prog w=.ok true w:=fun w=>by kernel_rfl
set_option maxRecDepth 100000 in
theorem entw_size:∀w,(Go.sizeOf 31).run Tryz.prog w=.ok 3 w:=fun w=>by kernel_rfl
theorem cellsE_one (x:EntV):∀v∈cellsE x,v.oneCell'=true:=by simp [cellsE,Value.oneCell']
theorem below_stored' {W2 W3:World} {o:Obj} (hg:(W2.alloc o).grownBy W3 (some W2.heap.size)):Below W2.heap.size W2 W3:=(below_new (below_self W2) o).grown hg (by simp) (fun g hg=>by have:=Option.some.inj hg;omega)
set_option maxRecDepth 100000 in
set_option maxHeartbeats 1600000 in
theorem names1_stops (n : Nat) (hn : 1 ≤ n) (B g m1 m2 : Nat) (ns : List NodV) (dir : Int) {L : List EntV} (hL : (nodAt ns dir).ents = L) (w : World) (hN : WkN w B g ns) (h1 : w.cell? ⟨m1, 0, none⟩ = some (.pointer (some ⟨g, 0, none⟩))) (h2 : w.cell? ⟨m2, 0, none⟩ = some (.int .i64 dir))
  (hB:B≤w.heap.size) (hg:g < w.heap.size) (hm1:m1 < w.heap.size) (hm2:m2 < w.heap.size) (hm:ns.length≤100000) (hl:L.length≤100000) :
  SeqStopsK Fence.wide n Tryz.prog 133 #[.pointer (some ⟨m1,0,none⟩),.pointer (some ⟨m2,0,none⟩)] (encN (ns:=ns) (l:=L)) (KpN B g ns m1 m2) (fun xs=>xs.map (fun x=>x.1)=dirsOf ns L) (fun _=>True) (dirsOf ns L).length w:=fun l J Jx W hW hAJ _ hY h0=>by
 have hro:Fence.wide.round=none:=rfl
 have k0:=kpN_below (ns:=ns) hB hg hm1 hm2 hW
 have hNW:=hN.kp k0
 have hb1:W.cell? ⟨m1,0,none⟩=some (.pointer (some ⟨g,0,none⟩)):=k0.2.2.1.trans h1
 have hb2:W.cell? ⟨m2,0,none⟩=some (.int .i64 dir):=k0.2.2.2.1.trans h2
 have hsW:=hW.size
 refine callsIn_of_wp Tryz.func133 rfl trivial ?_ rfl
 simp only [Tryz.ntmps133,List.size_toArray,List.length_cons,List.length_nil,Nat.reduceAdd,Nat.reduceSub,Array.replicate_succ,Array.replicate_zero,List.push_toArray,List.append_toArray,List.nil_append,List.cons_append]
 clear h1 h2 k0 hN
 gi_wp2
 refine ⟨trivial,(callsIn_wide.2 (node_any W hNW (by omega) (by omega) hm)).mono ?_⟩
 rintro e W1 ⟨A1,n1,c1,C,m,d,rfl,-,-,hmd,hE,hbel⟩
 have hf5:=nod_f5 (nodAt ns dir) A1 C n1 c1 m d
 have k1:=kpN_below (B:=B) (g:=g) (ns:=ns) (m1:=m1) (m2:=m2) (n:=W.heap.size) (by omega) (by omega) (by omega) (by omega) hbel
 have hN1:=hNW.kp k1
 have hc1:W1.cell? ⟨m1,0,none⟩=some (.pointer (some ⟨g,0,none⟩)):=k1.2.2.1.trans hb1
 have hs1:=hbel.size
 have hJ1:J [] W1:=hAJ _ _ _ none h0 (grown_below hbel) (fun r e=>by cases e)
 rw [hL] at hE
 clear hb1 hb2 hNW h0 hbel k1 hL
 gi_wp2
 clear hf5
 have HE:=hide hE
 have HN:=hide hN1
 have hml:m≤100000:=by rw [←hE.1];exact hl
 clear hE hN1
 gi_loopw [11] (fun iv wr=>∃(k:Nat) (pre:List (DirE ns L)),k≤m∧iv=.int .i64 k∧pre.map (fun x=>x.1)=dirsK ns L k∧J pre wr∧KpN B g ns m1 m2 W1 wr) (fun iv _=>m - (intOf iv).toNat)
 case atStart=>exact ⟨0,[],by omega,rfl,by simp [dirsK],hJ1,⟨fun _ _=>rfl,fun h=>h,rfl,rfl,Nat.le_refl _⟩⟩
 case round =>
  obtain ⟨k,pre,hk,rfl,hpre,hJ,hkp⟩:=hrel
  clear hJ1
  by_cases hlt:k < m
  ·obtain ⟨x,hx⟩:∃x,L[k]?=some x:=⟨_,List.getElem?_eq_getElem (by have:=HE.out.1;omega)⟩
   obtain ⟨b,o,rfl,hbB,hcell⟩:=ent_get HE.out hx
   have HC:=hide (fun j v (hv:(cellsE x)[j]?=some v)=>show wr.cell? ⟨b,o+k*3+j,none⟩=some v from (World.cell?_of_block ((hkp.1 b hbB))).trans (hcell j v hv))
   have hcm:wr.cell? ⟨m1,0,none⟩=some (.pointer (some ⟨g,0,none⟩)):=hkp.2.2.1.trans hc1
   have HX:=hide hx
   have HP:=hide hpre
   have hsr:=hkp.2.2.2.2
   have hz:=RowL.new wr 31 [.int .i64 0,.int .i64 0,.string ⟨#[]⟩]
   have HZ:=hide hz
   clear hx hpre hcell hz
   gi_wp2_with (first|(refine wpListIn_plain rfl fun K2 hK2=>?_;refine wpIn_loadX 31 (.tmp 14) rfl 3 entw_agg entw_size b (o+k*3) rfl (cellsE x) HC.out rfl ?_;refine hK2 _ _ ?_;clear hK2 K2)|(refine wpListIn_plain rfl fun K2 hK2=>?_;refine wpIn_storeW 31 (.tmp 5) (.tmp 15) rfl 3 entw_size wr.heap.size 31 rfl [.int .i64 0,.int .i64 0,.string ⟨#[]⟩] (cellsE x) rfl HZ.out rfl rfl (cellsE_one x) ?_;intro w3 hr3 hg3 hs3;refine hK2 _ _ ?_;clear hK2 K2;have hb3:=below_stored' hg3;have e0:w3.cell? ⟨wr.heap.size,0,none⟩=some (.int .i64 x.slot):=hr3.cell 0;have e1:w3.cell? ⟨wr.heap.size,1,none⟩=some (.int .i64 x.ino):=hr3.cell 1;have e2:w3.cell? ⟨wr.heap.size,2,none⟩=some (.string ⟨x.name.toArray⟩):=hr3.cell 2;have e3:w3.cell? ⟨m1,0,none⟩=some (.pointer (some ⟨g,0,none⟩)):=(hb3.cell (p:=⟨m1,0,none⟩) (by show m1 < _;omega)).trans hcm;have HB3:=hide hb3;have HR3:=hide hr3;clear hb3 hr3 hg3 hs3))
   have hs3:=HB3.out.size
   have k3:=kpN_below (B:=B) (g:=g) (ns:=ns) (m1:=m1) (m2:=m2) (n:=wr.heap.size) (by omega) (by omega) (by omega) (by omega) HB3.out
   refine ⟨trivial,(callsIn_wide.2 (dir_any (i:=x.ino) w3 ((HN.out.kp hkp).kp k3) (by omega) (by omega) hm)).mono ?_⟩
   rintro e w4 ⟨rfl,hb4⟩
   have hb34:=(HB3.out.trans (hb4.mono HB3.out.size))
   have hs4:=hb34.size
   have hr4:=HR3.out.on hb4
   have k4:=kpN_below (B:=B) (g:=g) (ns:=ns) (m1:=m1) (m2:=m2) (n:=wr.heap.size) (by omega) (by omega) (by omega) (by omega) hb34
   have hJ4:J pre w4:=hAJ _ _ _ none hJ (grown_below hb34) (fun r e=>by cases e)
   have HK4:=hide (kpN_t hkp k4)
   clear hJ hb4 hb34 k4 k3 e0 e1 e2 e3 hcm HB3 HR3
   cases hd:isDir ns x.ino with
   | false =>
    have HDS:=hide (dirsK_succ (ns:=ns) HX.out)
    gi_wp2
    refine ⟨fun _ h=>(by cases h),?_⟩
    gi_wp2
    go_roundw
    case rel=>exact ⟨k+1,pre,by omega,by go_num,by rw [HDS.out,hd];exact HP.out,hJ4,HK4.out⟩
    case measure=>simp [intOf];omega
   | true =>
    have e0:w4.cell? ⟨wr.heap.size,0,none⟩=some (.int .i64 x.slot):=hr4.cell 0
    have e1:w4.cell? ⟨wr.heap.size,1,none⟩=some (.int .i64 x.ino):=hr4.cell 1
    have e2:w4.cell? ⟨wr.heap.size,2,none⟩=some (.string ⟨x.name.toArray⟩):=hr4.cell 2
    have hln:pre.length < (dirsOf ns L).length:=by
     have h1:=dirsK_len HX.out hd
     rw [←HP.out,List.length_map] at h1
     exact h1
    obtain ⟨fn,tmps,assign,body,hy,hR⟩:=hY pre ⟨(x,k),dirsK_mem HX.out hd⟩ w4 hJ4 hln
    have HDS:=hide (show dirsK ns L (k+1)=dirsK ns L k++[(x,k)] from by rw [dirsK_succ HX.out,if_pos hd])
    have HR:=hide hR
    clear hR hJ4 hln hr4
    dsimp only [encN,cellsE] at hy
    gi_wp2
    refine HR.out.mono ?_
    rintro e W' (⟨rfl,hJ2,hk2⟩|⟨rfl,hJx2⟩)
    ·gi_wp2
     go_roundw
     case rel=>exact ⟨k+1,pre++[⟨(x,k),dirsK_mem HX.out hd⟩],by omega,by go_num,by rw [HDS.out,List.map_append,HP.out];rfl,hJ2,kpN_t HK4.out hk2⟩
     case measure=>simp [intOf];omega
    ·gi_wp2
     refine bodyPost_ret (results_none rfl _ _ _) rfl ?_
     exact ⟨⟨_,rfl⟩,.inr ⟨pre++[⟨(x,k),dirsK_mem HX.out hd⟩],trivial,hJx2⟩⟩
  ·obtain rfl:k=m:=by omega
   gi_wp2
   go_end0
   exact ⟨⟨_,rfl⟩,.inl ⟨pre,by rw [hpre];exact dirsK_all (by rw [HE.out.1];exact Nat.le_refl _),hJ⟩⟩
end Go.Proofs.YtpndfahgflgocaaGreatDoor

