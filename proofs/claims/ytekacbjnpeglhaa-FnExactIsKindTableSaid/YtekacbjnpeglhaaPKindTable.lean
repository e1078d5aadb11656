/- A record KindTable, whose fields are lists too. No condition. -/
import Derived.Test.YtekacbjnpeglhaaRow
import Derived.Test.YtekacbjnpeglhaaPBan
namespace Go.Proofs.Ytekacbjnpeglhaa.PKindTable
structure KindTable where
  sizes : (List Int)
  bans : (List Go.Proofs.Ytekacbjnpeglhaa.PBan.Ban)
end Go.Proofs.Ytekacbjnpeglhaa.PKindTable
