/- A record Sighting, whose fields are lists too. No condition. -/
import Derived.Test.YtpaakpbbahbhcaaDoorRow
namespace Go.Proofs.YtpaakpbbahbhcaaDoor.PSighting
structure Sighting where
  id : Int
  year : Int
  town : ByteArray
  traits : (List Int)
end Go.Proofs.YtpaakpbbahbhcaaDoor.PSighting
