import Derived.Test.YtpndfahgflgocaaGreatDoorLn24
import Derived.Test.YtpndfahgflgocaaGreatDoorLn27

namespace Go.Proofs.YtpndfahgflgocaaGreatDoor
open Go.RowKit Go.Shelf Plain

def StopsR (w:World) (D:Nat→Prop) (raws:List RawS) (ss:List StopV):Prop:=raws.length=ss.length∧∀(i:Nat) (r:RawS) (s:StopV),raws[i]?=some r→ss[i]?=some s→r.1=s.1.1∧r.2.2=pathC s.2∧r.2.1.2.1=s.1.2.length∧RdE prEn w D r.2.1.1 s.1.2.length s.1.2
theorem StopsR.mono {w w':World} {D D':Nat→Prop} {raws:List RawS} {ss:List StopV} (h:StopsR w D raws ss) (hk:Kept D w w') (hD:∀b,D b→D' b):StopsR w' D' raws ss:=⟨h.1,fun i r s h1 h2=>by
 obtain ⟨k1,k2,k3,k4⟩:=h.2 i r s h1 h2
 exact ⟨k1,k2,k3,k4.mono hk hD⟩⟩
theorem StopsR.snoc {w:World} {D:Nat→Prop} {raws:List RawS} {ss:List StopV} {r:RawS} {s:StopV} (h:StopsR w D raws ss) (h1:r.1=s.1.1) (h2:r.2.2=pathC s.2) (h3:r.2.1.2.1=s.1.2.length) (h4:RdE prEn w D r.2.1.1 s.1.2.length s.1.2):StopsR w D (raws++[r]) (ss++[s]):=by
 refine ⟨by rw [List.length_append,List.length_append,h.1];rfl,fun i r' s' hr hs=>?_⟩
 by_cases hi:i < raws.length
 ·rw [List.getElem?_append_left hi] at hr
  rw [List.getElem?_append_left (by rw [←h.1];exact hi)] at hs
  exact h.2 i r' s' hr hs
 ·have hi2:i=raws.length:=by have:=(List.getElem?_eq_some_iff.1 hr).1;simp at this;omega
  subst hi2
  rw [List.getElem?_append_right (Nat.le_refl _),Nat.sub_self] at hr
  rw [h.1,List.getElem?_append_right (Nat.le_refl _),Nat.sub_self] at hs
  obtain rfl:r=r':=by simpa using hr
  obtain rfl:s=s':=by simpa using hs
  exact ⟨h1,h2,h3,h4⟩
structure TourI (w : World) (base gT bM cM : Nat) (AS : Option Addr) (nS cS : Nat) (AX : Option Addr) (nX cX : Nat) (F : Nat → Prop) (g : GeoQ) (U L : Value) (up : List NodV) (ss : List StopV) (told : List ShnV) : Prop where
 row:RowL w gT 126 (touC g U L (.map (some bM)) (.slice AS nS cS) (.slice AX nX cX))
 set:SetP w bM cM (fun q=>(twiceS up (walkW up [1])).contains q)
 gTb:base≤gT
 bMb:base≤bM
 gTM:gT≠bM
 fre:∀b,F b→b < w.heap.size∧b≠gT∧b≠bM
 sto:∃raws,OwD rawEn F w base 122 AS nS cS raws∧StopsR w F raws ss
 tol:OwD shnEn F w base 97 AX nX cX told
theorem run_append_OwG {α : Type} {E : Enc α} {P : Program} (w : World) (base : Nat) (t ty e : TypeId) (z : Value) (k : Nat) (ht : P.underlying t = some (.slice e)) (hinfo : (P.info? e).map (fun i => (i.zero, i.size, i.bytes)) = some (some z, E.k, k)) (hzs : z.cells.size = E.k) (hk : 0 < E.k)
  (D0:Nat→Prop) (A0:Option Addr) (n c0:Nat) (l0:List α) (hown:OwD E D0 w base e A0 n c0 l0) (hR:∀ {w w':World} {D D':Nat→Prop} {cs:List Value} {x:α},E.R w D cs x→E.R w' D' cs x) (D:Nat→Prop) (A:Option Addr) (m c:Nat) (l1:List α) (hb:RdE E w D A m l1)
  (hbytes:(n+m)*k≤140737488355328) (hnm:n+m≤140737488355328) (hbase:base≤w.heap.size) :
  ∃A' c' w',(Builtin.append_ #[t,t] ty #[.slice A0 n c0,.slice A m c]).run P w=.ok (.slice A' (n+m) c') w'∧OwD E D0 w' base e A' (n+m) c' (l0++l1)∧Below base w w'∧w.grownBy w' (Value.slice A0 n c0).ownBlock:=by
 obtain ⟨css,hrow,hc,hl,hD0⟩:=hown
 obtain ⟨v',w',dss,hr,h2,h3,h4,h5,h6⟩:=run_append_E (P:=P) w base t ty e z k ht hinfo hzs hk _ n css hrow D A m c l1 hb hbytes hnm hbase
 have hv:∃A' c',v'=.slice A' (n+m) c':=by
  rcases h2.2 with ⟨rfl,h0⟩|⟨g,cap,cur,rfl,_⟩
  ·exact ⟨none,0,by rw [h0]⟩
  ·exact ⟨_,_,rfl⟩
 obtain ⟨A',c',rfl⟩:=hv
 refine ⟨A',c',w',hr,⟨css++dss,h2,?_,by rw [List.length_append,hl,hb.1],fun b hb=>⟨Nat.lt_of_lt_of_le (hD0 b hb).1 h4.size,fun a ha e=>?_⟩⟩,h4,h5⟩
 ·have hc':CellsE E w' D0 css l0:=⟨hc.1,fun i cs x k1 k2=>hR (hc.2 i cs x k1 k2)⟩
  have h3':CellsE E w' D0 dss l1:=⟨h3.1,fun i cs x k1 k2=>hR (h3.2 i cs x k1 k2)⟩
  exact hc'.append h3'
 ·subst ha
  rcases h6 with h6|h6
  ·cases A0 with
   | none=>simp [Value.ownBlock] at h6
   | some a0 =>
    have e2:a.block=a0.block:=by simpa [Value.ownBlock] using h6
    exact (hD0 b hb).2 a0 rfl (e.trans e2)
  ·have h7:=h6 a.block rfl
   have h8:=(hD0 b hb).1
   omega
theorem wp_append_OwG {α : Type} {E : Enc α} {P : Program} (w : World) {o : Oper} {a : Act} {K : Act → World → Prop} {Q : Exit → Act → World → Prop} (s x : Operand) (t : TypeId)
  (ho:o.op=.call {callee:=.builtin .append,args:=#[s,x],argTypes:=#[t,t]})
  (base:Nat) (e:TypeId) (z:Value) (k:Nat) (ht:P.underlying t=some (.slice e)) (hinfo:(P.info? e).map (fun i=>(i.zero,i.size,i.bytes))=some (some z,E.k,k)) (hzs:z.cells.size=E.k) (hk:0 < E.k)
  (D0:Nat→Prop) (A0:Option Addr) (n c0:Nat) (l0:List α) (hs:a.eval s=.slice A0 n c0) (hown:OwD E D0 w base e A0 n c0 l0) (hR:∀ {w w':World} {D D':Nat→Prop} {cs:List Value} {x:α},E.R w D cs x→E.R w' D' cs x) (D:Nat→Prop) (A:Option Addr) (m c:Nat) (l1:List α) (hx:a.eval x=.slice A m c) (hb:RdE E w D A m l1)
  (N:Nat) (hN:n+m=N) (hbytes:N*k≤140737488355328) (hnm:N≤140737488355328) (hbase:base≤w.heap.size)
  (h:∀A' c' w',OwD E D0 w' base e A' N c' (l0++l1)→Below base w w'→w.grownBy w' (Value.slice A0 n c0).ownBlock→K (a.put o.dst (.slice A' N c')) w'):o.wp P a w K Q:=by
 subst hN
 obtain ⟨A',c',w',hr,h2,h3,h4⟩:=run_append_OwG (P:=P) w base t o.type e z k ht hinfo hzs hk D0 A0 n c0 l0 hown hR D A m c l1 hb hbytes hnm hbase
 unfold Oper.wp execOp
 simp only [ho,resolve,invoke,builtin,Sem.run_bind,Sem.run_pure,Result.andThen_ok,List.map_toArray,List.map_cons,List.map_nil,hs,hx,hr]
 exact h A' c' w' h2 h3 h4
theorem OwD.more {α:Type} {E:Enc α} {D D':Nat→Prop} {w:World} {base e n c:Nat} {A:Option Addr} {l:List α} (h:OwD E D w base e A n c l) (h1:∀b,D b→D' b) (h2:∀b,D' b→b < w.heap.size∧∀a,A=some a→b≠a.block):OwD E D' w base e A n c l:=by
 obtain ⟨css,k1,k2,k3,k4⟩:=h
 exact ⟨css,k1,k2.mono (fun _ _=>rfl) h1,k3,h2⟩
theorem OwE.toD {α:Type} {E:Enc α} {D:Nat→Prop} {w:World} {base e n c:Nat} {A:Option Addr} {l:List α} (h:OwE E w base e A n c l) (hR:∀ {w w':World} {D D':Nat→Prop} {cs:List Value} {x:α},E.R w D cs x→E.R w' D' cs x) (h2:∀b,D b→b < w.heap.size∧∀a,A=some a→b≠a.block):OwD E D w base e A n c l:=by
 obtain ⟨css,k1,k2,k3⟩:=h
 exact ⟨css,k1,⟨k2.1,fun i cs x q1 q2=>hR (k2.2 i cs x q1 q2)⟩,k3,h2⟩
theorem OwE.one1 {α:Type} {E:Enc α} {x:α} {cs:List Value} (hR:∀w D,E.R w D cs x) (w:World) (T:Nat):OwE E (w.alloc (.cells cs.toArray T)) w.heap.size T (some ⟨w.heap.size,0,none⟩) 1 1 [x] :=
 ⟨[cs],by
  have h:=World.ownsRow_lit (base:=w.heap.size) (e:=T) (size:=E.k) w cs.toArray 1 (Nat.le_refl _) (by simp [maxLen]) (by rw [List.size_toArray,E.len (hR w (fun _=>False)),Nat.one_mul])
  simpa using h,⟨rfl,fun i c y h1 h2=>by
  have hi:i=0:=by have:=(List.getElem?_eq_some_iff.1 h1).1;simpa using this
  subst hi
  obtain rfl:cs=c:=by simpa using h1
  obtain rfl:x=y:=by simpa using h2
  exact hR _ _⟩,rfl⟩
def BegRet (w:World) (g:GeoQ) (U L:Value) (up:List NodV) (ls:List (List NodV)) (e:Ending) (w':World):Prop:=∃gT bM cM AS nS cS F,e=.returned (.pointer (some ⟨gT,0,none⟩))∧TourI w' w.heap.size gT bM cM AS nS cS none 0 0 F g U L up [(rootV up ls,[])] []∧Below w.heap.size w w'
theorem OwE.grownW {α:Type} {E:Enc α} {w w':World} {base e n c:Nat} {A:Option Addr} {l:List α} {r:Option Nat} (h:OwE E w base e A n c l) (hflat:∀ {w w':World} {D D':Nat→Prop} {cs:List Value} {x:α},E.R w D cs x→E.R w' D' cs x) (hg:w.grownBy w' r) (hne:(Value.slice A n c).ownBlock=none∨(Value.slice A n c).ownBlock≠r):OwE E w' base e A n c l:=by
 obtain ⟨css,h1,h2,h3⟩:=h
 exact ⟨css,h1.kept hg hne,⟨h2.1,fun i cs x k1 k2=>hflat (h2.2 i cs x k1 k2)⟩,h3⟩
theorem pairs_not {w:World} {A:Option Addr} {n b0:Nat} {l:List (Int×Int)} (h:RdE prEn w (Under w.heap.size) A n l) (ho:∃o:Obj,w.heap[b0]?=some o∧o.isCells=false):RdE prEn w (fun b=>b < w.heap.size∧b≠b0) A n l:=by
 refine ⟨h.1,fun hn=>?_⟩
 obtain ⟨b,o,e,hb,hc⟩:=h.2 hn
 refine ⟨b,o,e,⟨hb,fun e0=>?_⟩,hc⟩
 subst e0
 obtain ⟨x,hx⟩:∃x,l[0]?=some x:=⟨_,List.getElem?_eq_getElem (by rw [h.1];exact hn)⟩
 obtain ⟨cs,hR,hcs⟩:=hc 0 x hx
 have hc0:=hcs 0 (.int .i64 x.1) (by rw [show cs=prC x from hR];rfl)
 obtain ⟨ob,h1,h2⟩:=ho
 unfold World.cell? at hc0
 simp only [h1] at hc0
 cases ob <;> simp_all [Obj.isCells]
theorem int_oneS (W:World):RdE Enc.int (W.alloc (.cells #[.int .i64 1] 3)) (Under (W.alloc (.cells #[.int .i64 1] 3)).heap.size) (some ⟨W.heap.size,0,none⟩) 1 [1]:=by
 have h:=RowL.new W 3 [.int .i64 1]
 refine ⟨rfl,fun _=>⟨W.heap.size,0,rfl,h.lt,fun i x hx=>⟨[.int .i64 x],rfl,fun j v hv=>?_⟩⟩⟩
 have hi:i=0:=by have:=(List.getElem?_eq_some_iff.1 hx).1;simpa using this
 subst hi
 obtain rfl:1=x:=by simpa using hx
 have hj:j=0:=by have:=(List.getElem?_eq_some_iff.1 hv).1;simpa using this
 subst hj
 obtain rfl:Value.int .i64 1=v:=by simpa using hv
 exact h.cell 0
theorem two_size:∀w,(Go.sizeOf 137).run Tryz.prog w=.ok 2 w:=fun w=>by kernel_rfl
set_option maxRecDepth 100000 in
theorem two_agg:∀w,(isAgg 137).run Tryz.prog w=.ok true w:=fun w=>by kernel_rfl
theorem stps_size:∀w,(Go.sizeOf 124).run Tryz.prog w=.ok 1 w:=fun w=>by kernel_rfl
theorem twice_i64 {up:List NodV} (hup:FewU up) {q:Int×Int} (h:q∈twiceS up (walkW up [1])):i64 q.1∧i64 q.2:=by
 obtain ⟨⟨d,k⟩,hq,rfl⟩:=List.mem_map.1 h
 obtain ⟨e,he,hd⟩:=walk_dirq up [1] _ hq
 simp only at he
 have hdn:(nodAt up d).ents≠[]:=by intro e0;rw [e0] at he;simp at he
 have h1:1≤d∧d≤(up.length:Int):=by
  unfold nodAt at hdn
  split at hdn
  ·omega
  ·simp [nod0] at hdn
 have h2:=(nodAt_plain hup.2 d).1 k e (List.getElem?_eq_some_iff.1 he).1 he
 have h3:=hup.1
 unfold slotQ i64
 simp only [he,Option.getD_some]
 constructor <;> omega
set_option maxRecDepth 100000 in
set_option maxHeartbeats 8000000 in
theorem Begin_any {g:GeoQ} {AU AL:Option Addr} {nU cU nL cL B:Nat} {up:List NodV} {ls:List (List NodV)} (w:World) (hu:RdE nodEn w (Under B) AU nU up) (h:RdE layEn w (Under B) AL nL ls) (hB:B≤w.heap.size) (hF:FewL ls) (hup:FewU up):Calls Tryz.prog 72 #[.agg (stkC g (.slice AU nU cU) (.slice AL nL cL)).toArray] w (BegRet w g (.slice AU nU cU) (.slice AL nL cL) up ls):=by
 obtain ⟨W1,hW1⟩:∃W1,(w.alloc (.cells (stkC g (.slice AU nU cU) (.slice AL nL cL)).toArray 29))=W1:=⟨_,rfl⟩
 obtain ⟨r0,hb1,hs1⟩:=rowA1 w _ _ hW1
 have hW1':(w.alloc (.cells #[.int .i64 g.a,.int .i64 g.b,.int .i64 g.c,.int .i64 g.d,.slice AU nU cU,.slice AL nL cL] 29))=W1:=hW1
 have R1:=hide r0
 have HB:=hide hb1
 have hsz0:=hb1.size
 have HU:=hide (hu.under hb1 hB)
 have HL:=hide (h.under hb1 hB)
 have HF:=hide hF
 have HFU:=hide hup
 have hs1':w.heap.size+1≤W1.heap.size:=by omega
 have hmm := @run_makeMap Tryz.prog
 have q1_4:W1.cell? ⟨w.heap.size,4,none⟩=some (.slice AU nU cU):=R1.out.cell 4
 unfold stkC
 clear r0 hb1 hW1 hu h hF hup hs1
 go_enter Tryz.func72,Tryz.ntmps72
 go_upto_region 2 with (first|(refine wpList_loadW rfl 29 (.tmp 1) rfl 6 stk_agg stk_size (w.heap.size) 29 rfl [.int .i64 g.a,.int .i64 g.b,.int .i64 g.c,.int .i64 g.d,.slice AU nU cU,.slice AL nL cL] R1.out rfl ?_))
 have HS0:=hide ((SetP.made W1).on (below_new (below_self (W1.alloc (.map #[] 0))) (.cells #[.int .i64 g.a,.int .i64 g.b,.int .i64 g.c,.int .i64 g.d,.slice AU nU cU,.slice AL nL cL,.map (some W1.heap.size),.slice none 0 0,.slice none 0 0] 126)))
 have hal1:=below_new (below_self W1) (.map #[] 0)
 have hal2:=below_new (below_self (W1.alloc (.map #[] 0))) (.cells #[.int .i64 g.a,.int .i64 g.b,.int .i64 g.c,.int .i64 g.d,.slice AU nU cU,.slice AL nL cL,.map (some W1.heap.size),.slice none 0 0,.slice none 0 0] 126)
 have HT0:=hide (show RowL ((W1.alloc (.map #[] 0)).alloc (.cells #[.int .i64 g.a,.int .i64 g.b,.int .i64 g.c,.int .i64 g.d,.slice AU nU cU,.slice AL nL cL,.map (some W1.heap.size),.slice none 0 0,.slice none 0 0] 126)) (W1.heap.size+1) 126 (touC g (.slice AU nU cU) (.slice AL nL cL) (.map (some W1.heap.size)) (.slice none 0 0) (.slice none 0 0)) from by
  have h1:=RowL.new (W1.alloc (.map #[] 0)) 126 (touC g (.slice AU nU cU) (.slice AL nL cL) (.map (some W1.heap.size)) (.slice none 0 0) (.slice none 0 0))
  rw [World.size_alloc] at h1
  exact h1)
 have hb3:=hal1.trans (hal2.mono hal1.size)
 have hbM3:W1.heap.size < ((W1.alloc (.map #[] 0)).alloc (.cells #[.int .i64 g.a,.int .i64 g.b,.int .i64 g.c,.int .i64 g.d,.slice AU nU cU,.slice AL nL cL,.map (some W1.heap.size),.slice none 0 0,.slice none 0 0] 126)).heap.size:=by simp;omega
 have hgT3:W1.heap.size+1 < ((W1.alloc (.map #[] 0)).alloc (.cells #[.int .i64 g.a,.int .i64 g.b,.int .i64 g.c,.int .i64 g.d,.slice AU nU cU,.slice AL nL cL,.map (some W1.heap.size),.slice none 0 0,.slice none 0 0] 126)).heap.size:=by simp
 clear hal1 hal2
 generalize (W1.alloc (.map #[] 0)).alloc (.cells #[.int .i64 g.a,.int .i64 g.b,.int .i64 g.c,.int .i64 g.d,.slice AU nU cU,.slice AL nL cL,.map (some W1.heap.size),.slice none 0 0,.slice none 0 0] 126)=W3 at *
 have HB3:=hide (HB.out.trans (hb3.mono HB.out.size))
 have R13:=hide (R1.out.on hb3)
 have HU3:=hide (HU.out.under hb3 (by omega))
 have HL3:=hide (HL.out.under hb3 (by omega))
 have hsz3:=hb3.size
 clear hb3 R1 HB HU HL hW1' q1_4
 go_wp2_with (first|(refine wpList_loadC rfl 26 (.tmp 10) rfl 1 lay_agg lay_size (w.heap.size) 4 29 rfl (stkC g (.slice AU nU cU) (.slice AL nL cL)) [.slice AU nU cU] R13.out rfl rfl ?_)|(go_at_call 98;refine (Twice_any _ (und_up (HU3.out.under (below_new (below_self W3) (.cells #[.int .i64 1] 3)) (by omega)) (by simp;omega)) (int_oneS W3) (plain_many HFU.out.1 HFU.out.2).1 (by omega)).mono ?_;rintro e1 wD ⟨A7,n7,c7,rfl,-,htw,hbel0⟩;have hbel:Below W3.heap.size W3 wD:=(below_new (below_self W3) (.cells #[.int .i64 1] 3)).trans (hbel0.mono (by simp));have HSD:=hide (HS0.out.on hbel);have HTW:=hide (pairs_not htw (by obtain ⟨o,h1,-,h2⟩:=HSD.out.obj;exact ⟨o,h1,h2⟩));have HTD:=hide (HT0.out.on hbel);have R1D:=hide (R13.out.on hbel);have HUD:=hide (HU3.out.under hbel (by omega));have HLD:=hide (HL3.out.under hbel (by omega));have HBD:=hide (HB3.out.trans (hbel.mono HB3.out.size));have hszD:=hbel.size;clear htw hbel hbel0))
 have hn:n7≤1000:=by
  have h1:=HTW.out.1
  have h2:(twiceS up (walkW up [1])).length=(walkW up [1]).2.length:=by simp [twiceS]
  have h3:=walk_tw (plain_many HFU.out.1 HFU.out.2).1 [1]
  have h4:=(walk_ok up [1]).le
  have h5:=HFU.out.1
  omega
 have q7l:(twiceS up (walkW up [1])).length=n7:=HTW.out.1
 go_loopw [15] (fun v15 wr=>∃i:Nat,i≤n7∧v15=.int .i64 i∧SetP wr W1.heap.size i (fun q=>((twiceS up (walkW up [1])).take i).contains q)∧wD.heap.size≤wr.heap.size∧Below W1.heap.size wD wr∧RowL wr (W1.heap.size+1) 126 (touC g (.slice AU nU cU) (.slice AL nL cL) (.map (some W1.heap.size)) (.slice none 0 0) (.slice none 0 0))∧RdE prEn wr (fun b=>b < wD.heap.size∧b≠W1.heap.size) A7 n7 (twiceS up (walkW up [1]))) (fun v15 _=>n7 - (intOf v15).toNat)
 case atStart=>exact ⟨0,by omega,rfl,HSD.out.eq (by funext q;simp),Nat.le_refl _,Below.refl _ _,HTD.out,(by exact HTW.out)⟩
 case round =>
  obtain ⟨i,hi,rfl,hs,hsw,hbr,htr,hpr⟩:=hrel
  have HS:=hide hs
  have HBR:=hide hbr
  have HTR:=hide htr
  have HPR:=hide hpr
  have R1r:=hide (show RowL wr w.heap.size _ _ from (hbr.block _ (by omega)).trans R1D.out)
  have hbMr:=hs.lt
  clear hs hbr htr hpr
  by_cases hlt:i < n7
  ·obtain ⟨q,hq⟩:∃q,(twiceS up (walkW up [1]))[i]?=some q:=⟨_,List.getElem?_eq_getElem (by omega)⟩
   have hqi:=twice_i64 HFU.out (List.mem_of_getElem? hq)
   obtain ⟨b7,o7,hA7,hb7,hc7⟩:=HPR.out.2 (by omega)
   subst hA7
   obtain ⟨csq,rfl,hcq⟩:=hc7 i q hq
   have HCQ:=hide (fun k v (hv:(prC q)[k]?=some v)=>show wr.cell? ⟨b7,o7+i*2+k,none⟩=some v from by have h1:=hcq k v hv;rw [show prEn.k=2 from rfl,←Nat.add_assoc] at h1;exact h1)
   have hin:(i:Int) < (n7:Int):=by omega
   have HNS:=hide (show (fun p=>((twiceS up (walkW up [1])).take (i+1)).contains p)=(fun p=>((twiceS up (walkW up [1])).take i).contains p||decide (p=q)) from by
    funext p
    rw [List.take_add_one,hq]
    simp)
   clear hc7 hcq hq
   go_wp2_with (first|(refine wpList_loadX rfl 137 (.tmp 17) rfl 2 two_agg two_size b7 (o7+i*2) rfl (prC q) HCQ.out rfl ?_)|(refine wpList_storeW rfl 137 (.tmp 5) (.tmp 18) rfl 2 two_size (wr.heap.size) 137 rfl (prC (0,0)) (prC q) rfl (RowL.new wr 137 (prC (0,0))) rfl rfl (prC_one _) ?_;intro wS121 hr121 hg121 hs121;have hzb:=below_stored' hg121;replace HBR:=hide (HBR.out.trans (hzb.mono (by omega)));replace HTR:=hide (HTR.out.on hzb);replace HS:=hide (HS.out.on hzb);replace HPR:=hide (HPR.out.mono (Kept.of_below hzb (fun b hb=>by have:=hb.1;omega)) (fun _ h=>h));have hsz122:=hzb.size;have R5:=hide hr121;have hlt121:=hr121.lt;clear hzb hr121;clear hg121 hs121))
   refine wp_region_planL (fun w'=>Below wS121.heap.size wS121 w') [(0,true),(1,true),(2,true),(3,true),(4,true),(5,true)] 6 (by kernel_rfl) (by kernel_rfl) (by kernel_rfl) (by kernel_rfl) (by kernel_rfl) rfl (fun _ _ _ _ _ h=>h) (below_drew (below_self wS121)) (fun hHeld=>?_)
   simp only [planOps,List.filterMap_cons,List.filterMap_nil,List.getElem?_toArray,List.getElem?_cons_succ,List.getElem?_cons_zero,Option.map_some]
   iterate 3
    refine wpPlan_take (v:=?_) (by kernel_rfl) (fun wS hSw=>?_) ?_
    rotate_left
    ·(try dsimp only at hSw);go_simp;(try with_reducible rfl)
    (try simp only [Act.put,pu1,pu2,pu3])
   refine wpPlan_take (v:=?_) (by kernel_rfl) (fun wS hSw=>?_) ?_
   rotate_left
   ·have qx:=(HTR.out.on hSw).cell 6 |>.trans (show (touC g (.slice AU nU cU) (.slice AL nL cL) (.map (some W1.heap.size)) (.slice none 0 0) (.slice none 0 0))[6]?=some (.map (some W1.heap.size)) from rfl);go_simp;(try with_reducible rfl)
   (try simp only [Act.put,pu1,pu2,pu3])
   refine wpPlan_take (v:=?_) (by kernel_rfl) (fun wS hSw=>?_) ?_
   rotate_left
   ·refine execOp_load (x:=.tmp 5) (k:=2) (g:=wr.heap.size) (off:=0) (cs:=[.int .i64 q.1,.int .i64 q.2]) ?_ two_agg two_size ?_ (fun j v hv=>by rw [Nat.zero_add];exact ((R5.out.on hSw).cell j).trans hv) rfl <;> rfl
   (try simp only [Act.put,pu1,pu2,pu3])
   refine wpPlan_take (v:=?_) (by kernel_rfl) (fun wS hSw=>?_) ?_
   rotate_left
   ·(try dsimp only at hSw);go_simp;(try with_reducible rfl)
   (try simp only [Act.put,pu1,pu2,pu3])
   refine wpPlan_end ?_
   refine postL_go rfl (by kernel_rfl) ?_
   obtain ⟨w5,hrun,hs5,hg5⟩:=(HS.out.on hHeld).put hqi.1 hqi.2 (by simp only [maxLen];omega)
   have hzH:=hHeld.size
   have hz5:=hg5.size
   have HS5:=hide hs5
   have HB5:=hide ((HBR.out.trans (hHeld.mono (by omega))).grown hg5 (by omega) (pu4 (by omega)))
   have HT5:=hide ((HTR.out.on hHeld).grown hg5 (pu5 (by omega)))
   have HP5:=hide ((HPR.out.mono (Kept.of_below hHeld (fun b hb=>by have:=hb.1;omega)) (fun _ h=>h)).mono (w':=w5) (D':=fun b=>b < wD.heap.size∧b≠W1.heap.size) (fun b hb=>hg5.block b (by have:=hb.1;omega) (fun e=>hb.2 (Option.some.inj e))) (fun _ h=>h))
   clear hs5 hg5 HS HBR HTR HPR R5 HCQ
   unfold Oper.wp execOp
   go_simp
   clear hrun hHeld
   (try simp only [Act.put])
   go_wp2_with fail
   go_roundw
   case rel=>exact ⟨i+1,by omega,by go_num,HS5.out.eq HNS.out.symm,by omega,HB5.out,HT5.out,HP5.out⟩
   case measure=>simp [intOf];omega
  ·obtain rfl:n7=i:=by omega
   have hnlt:¬((n7:Int) < (n7:Int)):=by omega
   have HSF:=hide (HS.out.eq (g:=fun q=>(twiceS up (walkW up [1])).contains q) (by funext q;rw [List.take_of_length_le (by omega)]))
   have HUr:=hide (und_at HUD.out HBR.out (by omega))
   have HLr:=hide (und_at HLD.out HBR.out (by omega))
   have HBr:=hide (HBD.out.trans (HBR.out.mono (by omega)))
   clear HS HBR HPR
   go_wp2_with (first|(refine wpList_loadW rfl 29 (.tmp 1) rfl 6 stk_agg stk_size (w.heap.size) 29 rfl (stkC g (.slice AU nU cU) (.slice AL nL cL)) R1r.out rfl ?_)|(go_at_call 99;refine (VRoot_any wr HUr.out HLr.out (by omega) HF.out HFU.out.toX).mono ?_;rintro e2 wV ⟨AV,cV,rfl,hv,hbel⟩;simp only [viwC];have HV:=hide hv;have HSV:=hide (HSF.out.on hbel);have HTV:=hide (HTR.out.on hbel);have HBV:=hide (HBr.out.trans (hbel.mono HBr.out.size));have hszV:=hbel.size;clear hv hbel)|(have hal:=below_new (below_self wV) (.cells #[.int .i64 (rootV up ls).1,.slice AV (rootV up ls).2.length cV,.string ⟨#[]⟩] 122);have HLT:=hide (OwE.one1 (E:=rawEn) (x:=((rootV up ls).1,(AV,(rootV up ls).2.length,cV),[])) (cs:=[.int .i64 (rootV up ls).1,.slice AV (rootV up ls).2.length cV,.string ⟨#[]⟩]) (fun _ _=>rfl) wV 122);refine wpList_storeV rfl 124 (.tmp 32) (.tmp 30) rfl stps_size (W1.heap.size+1) 7 126 rfl (.slice (some ⟨wV.heap.size,0,none⟩) 1 1) rfl rfl rfl (touC g (.slice AU nU cU) (.slice AL nL cL) (.map (some W1.heap.size)) (.slice none 0 0) (.slice none 0 0)) (HTV.out.on hal) (by show 7 < 9;omega) ?_;intro wE hrE hgE hsE))
   go_ret
   have hzl:=hal.size
   have hgm:∀k,(some (W1.heap.size+1):Option Nat)=some k→W1.heap.size≤k:=fun k hk=>by have:=Option.some.inj hk;omega
   have hrE':RowL wE (W1.heap.size+1) 126 (touC g (.slice AU nU cU) (.slice AL nL cL) (.map (some W1.heap.size)) (.slice (some ⟨wV.heap.size,0,none⟩) 1 1) (.slice none 0 0)):=hrE
   have hVz:wV.heap.size < (wV.alloc (.cells #[.int .i64 (rootV up ls).1,.slice AV (rootV up ls).2.length cV,.string ⟨#[]⟩] 122)).heap.size:=by simp
   have hEz:=hgE.size
   have hfr:∀b,(wr.heap.size≤b∧b < wV.heap.size)→b < wE.heap.size∧b≠W1.heap.size+1∧b≠W1.heap.size:=fun b hb=>by have h1:=hb.1;have h2:=hb.2;exact ⟨by omega,by omega,by omega⟩
   refine ⟨W1.heap.size+1,W1.heap.size,n7,some ⟨wV.heap.size,0,none⟩,1,1,(fun b=>wr.heap.size≤b∧b < wV.heap.size),rfl,⟨hrE',(HSV.out.on hal).kept hgE (by intro e;have:=Option.some.inj e;omega),by omega,by omega,by omega,hfr,⟨[((rootV up ls).1,(AV,(rootV up ls).2.length,cV),[])],?_,?_⟩,OwD.nil_ _ _ _ _ (fun b hb=>(hfr b hb).1)⟩,((HBV.out.trans (hal.mono HBV.out.size)).grown hgE (by have:=HBV.out.size;omega) (pu4 (by omega)))⟩
   ·exact ((HLT.out.rebase (by omega)).grownW (fun h=>h) hgE (.inr (by intro e;have h1:wV.heap.size=W1.heap.size+1:=Option.some.inj e;omega))).toD (fun h=>h) (fun b hb=>⟨(hfr b hb).1,fun a ha=>by cases ha;exact Nat.ne_of_lt hb.2⟩)
   ·refine ⟨rfl,fun i r s hr hs=>?_⟩
    have hi:i=0:=by have:=(List.getElem?_eq_some_iff.1 hr).1;simpa using this
    subst hi
    obtain rfl:_=r:=Option.some.inj hr
    obtain rfl:_=s:=Option.some.inj hs
    exact ⟨rfl,rfl,rfl,(HV.out.mono (w':=wE) (fun b hb=>(hgE.block b (by have:=hb.2;omega) (fun e=>by have:=Option.some.inj e;have:=hb.1;omega)).trans (hal.block b hb.2)) (fun _ h=>h))⟩
end Go.Proofs.YtpndfahgflgocaaGreatDoor

namespace Go.Proofs.YtpndfahgflgocaaGreatDoor
open Go.RowKit Go.Shelf Plain

set_option maxRecDepth 100000 in
theorem shnW_info:(Tryz.prog.info? 97).map (fun i=>(i.zero,i.size,i.bytes))=some (some (.agg #[.string ⟨#[]⟩,.int .i64 0,.int .i64 0,.int .i64 0]),4,40):=by kernel_rfl
set_option maxRecDepth 100000 in
theorem stpW_info:(Tryz.prog.info? 122).map (fun i=>(i.zero,i.size,i.bytes))=some (some (.agg #[.int .i64 0,.slice none 0 0,.string ⟨#[]⟩]),3,48):=by kernel_rfl
theorem lit_shn (x:List UInt8) (a b c:Int) (W:World):(Instr.buildSlice 94 1 #[(0,.agg #[.string ⟨x.toArray⟩,.int .i64 a,.int .i64 b,.int .i64 c])]).run Tryz.prog W=.ok (.slice (some ⟨W.heap.size,0,none⟩) 1 1) (W.alloc (.cells #[.string ⟨x.toArray⟩,.int .i64 a,.int .i64 b,.int .i64 c] 97)):=by
 obtain ⟨it,hi,hz,hsz,-⟩:=info_parts shnW_info
 refine run_buildSlice W _ 97 1 _ _ it (.agg #[.string ⟨#[]⟩,.int .i64 0,.int .i64 0,.int .i64 0]) Tryz.underlying94 hi hz (by omega) (by omega) ?_
 rw [hsz]
 have:=Great.fill_whole (s:=4) (by omega) [.agg #[.string ⟨x.toArray⟩,.int .i64 a,.int .i64 b,.int .i64 c]] ((Array.range (1*4)).map ((Value.agg #[.string ⟨#[]⟩,.int .i64 0,.int .i64 0,.int .i64 0]).cells[· % (Value.agg #[.string ⟨#[]⟩,.int .i64 0,.int .i64 0,.int .i64 0]).cells.size]!)) (by intro v hv;rw [List.mem_singleton] at hv;subst hv;simp [Value.cells]) (by simp)
 simpa [Value.cells] using this
theorem lit_stp (a:Int) (A:Option Addr) (n c:Nat) (x:List UInt8) (W:World):(Instr.buildSlice 124 1 #[(0,.agg #[.int .i64 a,.slice A n c,.string ⟨x.toArray⟩])]).run Tryz.prog W=.ok (.slice (some ⟨W.heap.size,0,none⟩) 1 1) (W.alloc (.cells #[.int .i64 a,.slice A n c,.string ⟨x.toArray⟩] 122)):=by
 obtain ⟨it,hi,hz,hsz,-⟩:=info_parts stpW_info
 refine run_buildSlice W _ 122 1 _ _ it (.agg #[.int .i64 0,.slice none 0 0,.string ⟨#[]⟩]) Tryz.underlying124 hi hz (by omega) (by omega) ?_
 rw [hsz]
 have:=Great.fill_whole (s:=3) (by omega) [.agg #[.int .i64 a,.slice A n c,.string ⟨x.toArray⟩]] ((Array.range (1*3)).map ((Value.agg #[.int .i64 0,.slice none 0 0,.string ⟨#[]⟩]).cells[· % (Value.agg #[.int .i64 0,.slice none 0 0,.string ⟨#[]⟩]).cells.size]!)) (by intro v hv;rw [List.mem_singleton] at hv;subst hv;simp [Value.cells]) (by simp)
 simpa [Value.cells] using this
theorem OwD.notD {α:Type} {E:Enc α} {D:Nat→Prop} {w:World} {base e n c:Nat} {A:Option Addr} {l:List α} (h:OwD E D w base e A n c l):∀k,(Value.slice A n c).ownBlock=some k→¬D k∧base≤k:=fun k hk=>by
 obtain ⟨css,h1,-,-,h4⟩:=h
 refine ⟨fun hD=>?_,(own_block h1 k hk).1⟩
 cases A with
 | none=>cases hk
 | some a =>
  have e:a.block=k:=Option.some.inj hk
  exact (h4 k hD).2 a rfl e.symm
theorem OwD.two {α β:Type} {E:Enc α} {G:Enc β} {D D':Nat→Prop} {w:World} {b1 b2 e1 e2 n1 n2 c1 c2:Nat} {A1 A2:Option Addr} {l1:List α} {l2:List β} (h1:OwD E D w b1 e1 A1 n1 c1 l1) (h2:OwD G D' w b2 e2 A2 n2 c2 l2) (he:e1≠e2):∀k,(Value.slice A1 n1 c1).ownBlock=some k→∀a,A2=some a→a.block≠k:=fun k hk a ha e=>by
 obtain ⟨_,r1,-⟩:=h1
 obtain ⟨_,r2,-⟩:=h2
 subst ha
 rcases owns_apart r1 r2 he with h|h
 ·cases h
 ·exact h (by rw [hk,←e];rfl)
theorem TourI.noMap {w:World} {base gT bM cM e n c:Nat} {AS AX A:Option Addr} {nS cS nX cX:Nat} {F D:Nat→Prop} {g:GeoQ} {U L:Value} {up:List NodV} {ss:List StopV} {told:List ShnV} {α:Type} {E:Enc α} {l:List α} (h:TourI w base gT bM cM AS nS cS AX nX cX F g U L up ss told) (ho:OwD E D w base e A n c l):some bM≠(Value.slice A n c).ownBlock:=fun eq=>by
 obtain ⟨o,ho1,-,ho2⟩:=h.set.obj
 obtain ⟨css,hrow,-⟩:=ho
 obtain ⟨-,-,o',h1,h2⟩:=own_block hrow bM eq.symm
 rw [ho1] at h1
 cases h1
 rw [ho2] at h2
 cases h2
theorem TourI.tell {w w' w'':World} {base gT bM cM:Nat} {AS AX A':Option Addr} {nS cS nX cX n' c':Nat} {F:Nat→Prop} {g:GeoQ} {U L:Value} {up:List NodV} {ss:List StopV} {told told':List ShnV} (h:TourI w base gT bM cM AS nS cS AX nX cX F g U L up ss told) (ho:OwD shnEn F w' base 97 A' n' c' told') (hg:w.grownBy w' (Value.slice AX nX cX).ownBlock) (hr:RowL w'' gT 126 (touC g U L (.map (some bM)) (.slice AS nS cS) (.slice A' n' c'))) (hg2:w'.grownBy w'' (some gT)):TourI w'' base gT bM cM AS nS cS A' n' c' F g U L up ss told':=by
 have hrow:RowL w' gT 126 _:=h.row.grown hg (owe_apart h.tol.own h.row (by decide))
 have hT:¬F gT:=fun hF=>(h.fre gT hF).2.1 rfl
 have hS:=h.sto
 refine ⟨hr,(h.set.kept hg (h.noMap h.tol)).kept hg2 (fun e=>h.gTM (Option.some.inj e).symm),h.gTb,h.bMb,h.gTM,fun b hF=>⟨Nat.lt_of_lt_of_le (h.fre b hF).1 (Nat.le_trans hg.size hg2.size),(h.fre b hF).2⟩,?_,ho.grown hg2 (fun k hk=>?_)⟩
 ·obtain ⟨raws,k1,k2⟩:=hS
  have k3:OwD rawEn F w' base 122 AS nS cS raws:=k1.grown hg (fun k hk=>⟨(h.tol.notD k hk).1,h.tol.two k1 (by decide) k hk⟩)
  refine ⟨raws,k3.grown hg2 (fun k hk=>?_),k2.mono (fun b hb=>(hg2.block b (Nat.lt_of_lt_of_le (h.fre b hb).1 hg.size) (fun e=>hT (by rw [←Option.some.inj e];exact hb))).trans (hg.block b (h.fre b hb).1 (fun e=>(h.tol.notD b e.symm).1 hb))) (fun _ h=>h)⟩
  obtain rfl:=Option.some.inj hk
  exact ⟨hT,fun a ha e=>owe_apart k3.own hrow (by decide) (by rw [ha,←e];rfl)⟩
 ·obtain rfl:=Option.some.inj hk
  exact ⟨hT,fun a ha e=>owe_apart ho.own hrow (by decide) (by rw [ha,←e];rfl)⟩
theorem TourI.come {w w' w'':World} {base gT bM cM:Nat} {AS AX A':Option Addr} {nS cS nX cX n' c':Nat} {F:Nat→Prop} {g:GeoQ} {U L:Value} {up:List NodV} {ss ss':List StopV} {told:List ShnV} {raws:List RawS} (h:TourI w base gT bM cM AS nS cS AX nX cX F g U L up ss told) {raws0:List RawS} (h0:OwD rawEn F w base 122 AS nS cS raws0) (ho:OwD rawEn F w' base 122 A' n' c' raws) (hss:StopsR w F raws ss') (hg:w.grownBy w' (Value.slice AS nS cS).ownBlock) (hr:RowL w'' gT 126 (touC g U L (.map (some bM)) (.slice A' n' c') (.slice AX nX cX))) (hg2:w'.grownBy w'' (some gT)):TourI w'' base gT bM cM A' n' c' AX nX cX F g U L up ss' told:=by
 have hrow:RowL w' gT 126 _:=h.row.grown hg (owe_apart h0.own h.row (by decide))
 have hT:¬F gT:=fun hF=>(h.fre gT hF).2.1 rfl
 have k3:OwD shnEn F w' base 97 AX nX cX told:=h.tol.grown hg (fun k hk=>⟨(h0.notD k hk).1,h0.two h.tol (by decide) k hk⟩)
 refine ⟨hr,(h.set.kept hg (h.noMap h0)).kept hg2 (fun e=>h.gTM (Option.some.inj e).symm),h.gTb,h.bMb,h.gTM,fun b hF=>⟨Nat.lt_of_lt_of_le (h.fre b hF).1 (Nat.le_trans hg.size hg2.size),(h.fre b hF).2⟩,⟨raws,ho.grown hg2 (fun k hk=>?_),hss.mono (fun b hb=>(hg2.block b (Nat.lt_of_lt_of_le (h.fre b hb).1 hg.size) (fun e=>hT (by rw [←Option.some.inj e];exact hb))).trans (hg.block b (h.fre b hb).1 (fun e=>(h0.notD b e.symm).1 hb))) (fun _ h=>h)⟩,k3.grown hg2 (fun k hk=>?_)⟩
 ·obtain rfl:=Option.some.inj hk
  exact ⟨hT,fun a ha e=>owe_apart ho.own hrow (by decide) (by rw [ha,←e];rfl)⟩
 ·obtain rfl:=Option.some.inj hk
  exact ⟨hT,fun a ha e=>owe_apart k3.own hrow (by decide) (by rw [ha,←e];rfl)⟩
theorem row_ne {w:World} {g g' t t':Nat} {cs cs':List Value} (h:RowL w g t cs) (h':RowL w g' t' cs') (hne:t≠t'):g≠g':=by
 intro e
 subst e
 have:=h.symm.trans h'
 simp at this
 exact hne this.2
theorem TourI.kept2 {w w' w'':World} {base gT bM cM e n c:Nat} {AS AX A:Option Addr} {nS cS nX cX:Nat} {F:Nat→Prop} {g:GeoQ} {U L:Value} {up:List NodV} {ss:List StopV} {told:List ShnV} {α:Type} {E:Enc α} {l:List α} (h:TourI w base gT bM cM AS nS cS AX nX cX F g U L up ss told) (ho:OwD E F w base e A n c l) (hg:w.grownBy w' (Value.slice A n c).ownBlock) (hg2:w'.grownBy w'' (some gT)):Kept F w w'':=fun b hb =>
 (hg2.block b (Nat.lt_of_lt_of_le (h.fre b hb).1 hg.size) (fun e=>(h.fre b hb).2.1 (Option.some.inj e))).trans (hg.block b (h.fre b hb).1 (fun e=>(ho.notD b e.symm).1 hb))
theorem row_two {w w' w'':World} {base e n c gT T k t:Nat} {A:Option Addr} {F:Nat→Prop} {α:Type} {E:Enc α} {l:List α} {cT cs:List Value} (ho:OwD E F w base e A n c l) (hT:RowL w gT T cT) (hr:RowL w k t cs) (h1:t≠e) (h2:t≠T) (hg:w.grownBy w' (Value.slice A n c).ownBlock) (hg2:w'.grownBy w'' (some gT)):RowL w'' k t cs :=
 (hr.grown hg (owe_apart ho.own hr h1)).grown hg2 (fun e=>row_ne hr hT h2 (Option.some.inj e))
theorem ow_two {w w' w'':World} {base b1 e1 e n c n1 c1 gT:Nat} {A A1:Option Addr} {F:Nat→Prop} {α β:Type} {E:Enc α} {f:β→Value} {l:List α} {l1:List β} (h:Ow f w b1 e1 A1 n1 c1 l1) (ho:OwD E F w base e A n c l) (he:e≠e1) (hg:w.grownBy w' (Value.slice A n c).ownBlock) (hg2:w'.grownBy w'' (some gT)) (hT:gT < b1):Ow f w'' b1 e1 A1 n1 c1 l1:=by
 obtain ⟨_,r1,-⟩:=ho
 have h2:World.ownsRow w' b1 e1 1 (.slice A1 n1 c1) n1 (l1.map f):=World.ownsRow.kept h hg (owns_apart r1 h he)
 refine World.ownsRow.kept h2 hg2 ?_
 cases hb:(Value.slice A1 n1 c1).ownBlock with
 | none=>exact .inl rfl
 | some k =>
  have h3:=(own_block h2 k hb).1
  exact .inr (pu5 (by omega))
theorem wp_storeVo {P : Program} {w : World} {o : Oper} {a : Act} {K : Act → World → Prop} {Q : Exit → Act → World → Prop} (T : Nat) (x y : Operand) (ho : o.op = .store T x y)
  (hsz:∀w,(sizeOf T).run P w=.ok 1 w) (g off t:Nat) (hx:a.eval x=.pointer (some ⟨g,off,none⟩)) (v:Value) (hy:a.eval y=v) (hv:v.cells=#[v]) (h1:v.oneCell'=true) (cur:List Value) (h:RowL w g t cur) (hfit:off < cur.length)
  (hK:∀w',RowL w' g t (cur.set off v)→w.grownBy w' (some g)→w'.heap.size=w.heap.size→K (a.put o.dst undef) w'):o.wp P a w K Q:=by
 have hst:=run_storeCells_at P g off t [v] 0 cur.toArray w h (by simp;omega) (by simp [h1])
 simp only [Nat.add_zero] at hst
 have hr:(Instr.storeAt T (.pointer (some ⟨g,off,none⟩)) v).run P w=.ok () (w.setRow g (splice cur off [v]).toArray):=by
  simp [Instr.storeAt,Instr.sureAddr,storeVar,hsz,hv,hst,splice]
 unfold Oper.wp execOp
 simp only [ho,Sem.run_bind,Sem.run_pure,Result.andThen_ok,hx,hy,hr]
 have hrow:=h.setRow_ (splice cur off [v])
 rw [splice_one _ _ _ hfit] at hrow ⊢
 exact hK _ hrow (grownBy_setRow _ _ _) (by simp)
set_option maxRecDepth 100000 in
theorem shns_size:∀w,(Go.sizeOf 94).run Tryz.prog w=.ok 1 w:=fun w=>by kernel_rfl
end Go.Proofs.YtpndfahgflgocaaGreatDoor

