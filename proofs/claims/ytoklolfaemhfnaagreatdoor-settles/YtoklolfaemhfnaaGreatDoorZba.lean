import Derived.Test.YtoklolfaemhfnaaGreatDoorZad
import Derived.Test.YtoklolfaemhfnaaGreatDoorZap
set_option maxRecDepth 100000
set_option maxHeartbeats 0
set_option linter.defProp false
namespace Go.Proofs.Y
section
open Go.RowKit
def Gi:(Tryz.prog.info? 3).map (λi=>(i.zero,i.size,i.bytes))=some (some (J 0),1,8):=κ
def lu(b j:Nat):(⟨b,0,none⟩:Addr).add j=(aT b j):=by
 have:(⟨b,0,none⟩:Addr).add j=⟨b,0+j,none⟩:=by simp[Addr.add];lia
 rw[this,yS]

