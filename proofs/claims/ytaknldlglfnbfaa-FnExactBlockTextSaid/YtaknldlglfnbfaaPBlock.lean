/- A record Block, whose fields are lists too. No condition. -/
import Derived.Test.YtaknldlglfnbfaaRow
namespace Go.Proofs.Ytaknldlglfnbfaa.PBlock
structure Block where
  rows : (List ByteArray)
end Go.Proofs.Ytaknldlglfnbfaa.PBlock
