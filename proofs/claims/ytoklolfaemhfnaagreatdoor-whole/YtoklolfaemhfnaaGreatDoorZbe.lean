import Derived.Test.YtoklolfaemhfnaaGreatDoorZax
set_option maxRecDepth 100000
set_option maxHeartbeats 8000000
namespace Go.Proofs.YtoklolfaemhfnaaGreatDoor
section
open Go.RowKit

end
end Go.Proofs.YtoklolfaemhfnaaGreatDoor
