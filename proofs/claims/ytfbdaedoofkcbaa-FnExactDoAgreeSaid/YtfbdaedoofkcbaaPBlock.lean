/- A record Block, whose fields are lists too. No condition. -/
import Derived.Test.YtfbdaedoofkcbaaRow
namespace Go.Proofs.Ytfbdaedoofkcbaa.PBlock
structure Block where
  rows : (List ByteArray)
end Go.Proofs.Ytfbdaedoofkcbaa.PBlock
