import Derived.Test.YtoklolfaemhfnaaGreatDoorZ3
import Derived.Below
set_option maxRecDepth 100000
set_option maxHeartbeats 0
set_option linter.defProp false
namespace Go.RowKit
section
def ah{p:Prop}(h:p):Hid p:=h
