import Derived.Conc.Own
set_option maxRecDepth 100000
set_option maxHeartbeats 0
set_option linter.defProp false
namespace Go
section
def sE:type_of% @Go.Conc.stepG_region_end:=@Go.Conc.stepG_region_end
def sQ:type_of% @Go.Conc.stepG_seq:=@Go.Conc.stepG_seq
def sR:type_of% @Go.Conc.stepG_region:=@Go.Conc.stepG_region
def sK:type_of% @Go.Conc.stepG_skip:=@Go.Conc.stepG_skip
