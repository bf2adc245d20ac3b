import Derived.Below

namespace Go.Proofs.YtfdbhldnohaopaaDoor
theorem pu1 {α:Type} (l:List α) (i:Nat) (a:α):l.toArray.setIfInBounds i a=(l.set i a).toArray:=List.setIfInBounds_toArray ..
theorem pu2 {α:Type} {a b:α} {l:List α}:(a::l).set 0 b=b::l:=List.set_cons_zero ..
theorem pu4 {g b:Nat} (h:b≤g):∀k,some g=some k→b≤k:=fun k hk=>by have:=Option.some.inj hk;omega
theorem pu5 {g h:Nat} (hn:g≠h):some g≠some h:=fun e=>hn (Option.some.inj e)
theorem pu3 {α:Type} {a b:α} {l:List α} {n:Nat}:(a::l).set (n+1) b=a::l.set n b:=List.set_cons_succ ..
end Go.Proofs.YtfdbhldnohaopaaDoor
namespace Go.Proofs.YtfdbhldnohaopaaDoor.Plain

open Go.RowKit in
theorem hide {p:Prop} (h:p):Hid p:=h

def isz (s:Int):Bool:=s==1||s==2||s==4
def hold (m:Nat) (p s:Int):Bool:=isz s&&(decide (0≤p)&&decide (p≤m - s))
end Go.Proofs.YtfdbhldnohaopaaDoor.Plain

