import Derived.Test.YtoklolfaemhfnaaGreatDoorZ1
import Derived.Conc.Own
set_option maxRecDepth 100000
set_option maxHeartbeats 0
set_option linter.defProp false
namespace Go
section
def sE:type_of% @Conc.stepG_region_end:=@Conc.stepG_region_end
def sQ:type_of% @Conc.stepG_seq:=@Conc.stepG_seq
theorem sR:type_of% @Conc.stepG_region:=@Conc.stepG_region
def sK:type_of% @Conc.stepG_skip:=@Conc.stepG_skip
