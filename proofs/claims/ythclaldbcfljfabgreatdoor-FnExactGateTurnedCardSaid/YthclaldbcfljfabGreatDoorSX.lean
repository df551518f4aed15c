import Derived.Test.YthclaldbcfljfabGreatDoorBX
namespace Go.Proofs.YthclaldbcfljfabGreatDoor
open Go.RowKit

/-- What a field of a shape holds. -/
structure Fld where
  nm : ByteArray
  kd : Int
  ls : Int
  ms : Int
  ws : List ByteArray
  to : ByteArray
  rl : Int
  mu : Bool
  fx : Bool
  df : ByteArray
  wg : ByteArray

/-- A shape: its kind, its fields. -/
structure Shp where
  kd : ByteArray
  fs : List Fld

/-- The cells of a field whose words lie at a. -/
def Fld.cells (f : Fld) (a : Option Addr) (cap : Nat) : Array Value :=
  #[.string f.nm, .int .i64 f.kd, .int .i64 f.ls, .int .i64 f.ms, .slice a f.ws.length cap, .string f.to, .int .i64 f.rl, .bool f.mu, .bool f.fx, .string f.df, .string f.wg]

structure Fld.Small (f : Fld) : Prop where
  nm : f.nm.size ≤ maxLen
  to : f.to.size ≤ maxLen
  df : f.df.size ≤ maxLen
  wg : f.wg.size ≤ maxLen

/-- A field lies at a place of memory, eleven cells. -/
structure FldIn (w : World) (b off : Nat) (f : Fld) (a : Option Addr) (cap : Nat) : Prop where
  small : f.Small
  strs : StrsAt w a f.ws
  cell : ∀ j, j < 11 → w.cell? ⟨b, off + j, none⟩ = (f.cells a cap)[j]?

/-- A slice of fields that lies in memory. -/
structure FldsAt (w : World) (a : Option Addr) (fs : List Fld) : Prop where
  len : fs.length ≤ maxLen
  rows : fs ≠ [] → ∃ b off, a = some ⟨b, off, none⟩ ∧ b < w.heap.size ∧ ∀ i (h : i < fs.length), ∃ wa wcap, FldIn w b (off + i * 11) fs[i] wa wcap

structure ShpIn (w : World) (b off : Nat) (s : Shp) (a : Option Addr) (cap : Nat) : Prop where
  small : s.kd.size ≤ maxLen
  flds : FldsAt w a s.fs
  kind : w.cell? ⟨b, off, none⟩ = some (.string s.kd)
  list : w.cell? ⟨b, off + 1, none⟩ = some (.slice a s.fs.length cap)

structure ShpsAt (w : World) (a : Option Addr) (ss : List Shp) : Prop where
  len : ss.length ≤ maxLen
  rows : ss ≠ [] → ∃ b off, a = some ⟨b, off, none⟩ ∧ b < w.heap.size ∧ ∀ i (h : i < ss.length), ∃ fa fcap, ShpIn w b (off + i * 2) ss[i] fa fcap

theorem FldIn.mono {w w' : World} {b off : Nat} {f : Fld} {a : Option Addr} {cap : Nat} (h : FldIn w b off f a cap) (hb : b < w.heap.size) (hl : Below w.heap.size w w') : FldIn w' b off f a cap :=
  ⟨h.small, h.strs.mono hl, fun j hj => (hl.cell (p := ⟨b, off + j, none⟩) hb).trans (h.cell j hj)⟩

theorem FldsAt.mono {w w' : World} {a : Option Addr} {fs : List Fld} (h : FldsAt w a fs) (hl : Below w.heap.size w w') : FldsAt w' a fs :=
  ⟨h.len, fun hne => by
    obtain ⟨b, off, ha, hb, hr⟩ := h.rows hne
    refine ⟨b, off, ha, Nat.lt_of_lt_of_le hb hl.size, fun i hi => ?_⟩
    obtain ⟨wa, wcap, hf⟩ := hr i hi
    exact ⟨wa, wcap, hf.mono hb hl⟩⟩

theorem ShpIn.mono {w w' : World} {b off : Nat} {s : Shp} {a : Option Addr} {cap : Nat} (h : ShpIn w b off s a cap) (hb : b < w.heap.size) (hl : Below w.heap.size w w') : ShpIn w' b off s a cap :=
  ⟨h.small, h.flds.mono hl, (hl.cell (p := ⟨b, off, none⟩) hb).trans h.kind, (hl.cell (p := ⟨b, off + 1, none⟩) hb).trans h.list⟩

theorem ShpsAt.mono {w w' : World} {a : Option Addr} {ss : List Shp} (h : ShpsAt w a ss) (hl : Below w.heap.size w w') : ShpsAt w' a ss :=
  ⟨h.len, fun hne => by
    obtain ⟨b, off, ha, hb, hr⟩ := h.rows hne
    refine ⟨b, off, ha, Nat.lt_of_lt_of_le hb hl.size, fun i hi => ?_⟩
    obtain ⟨fa, fcap, hs⟩ := hr i hi
    exact ⟨fa, fcap, hs.mono hb hl⟩⟩

end Go.Proofs.YthclaldbcfljfabGreatDoor
