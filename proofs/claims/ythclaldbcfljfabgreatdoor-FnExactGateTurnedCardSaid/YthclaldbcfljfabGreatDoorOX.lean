import Derived.Test.YthclaldbcfljfabGreatDoorPN
namespace Go.Proofs.YthclaldbcfljfabGreatDoor
open Go.RowKit

/-- An object by value: its two lists lie in memory. -/
structure ObAt (w : World) (o : Ob) (a a' : Option Addr) : Prop where
  small : o.Small
  vals : StrsAt w a o.vs
  holds : StrsAt w a' o.hs

theorem ObAt.mono {w w' : World} {o : Ob} {a a' : Option Addr} (h : ObAt w o a a') (hb : Below w.heap.size w w') : ObAt w' o a a' :=
  ⟨h.small, h.vals.mono hb, h.holds.mono hb⟩

end Go.Proofs.YthclaldbcfljfabGreatDoor
