import Derived.Test.YtoklolfaemhfnaaGreatDoorZ1
import Derived.KernelRfl
set_option maxRecDepth 100000
set_option maxHeartbeats 0
set_option linter.defProp false
section
def κ{p:Prop}(h:p:=by kernel_rfl):p:=h
end
