import Derived.Conc.Own
set_option maxRecDepth 100000
set_option maxHeartbeats 8000000
namespace Go
section
theorem sE:type_of% @Go.Conc.stepG_region_end:=@Go.Conc.stepG_region_end
theorem sQ:type_of% @Go.Conc.stepG_seq:=@Go.Conc.stepG_seq
theorem sR:type_of% @Go.Conc.stepG_region:=@Go.Conc.stepG_region
theorem sK:type_of% @Go.Conc.stepG_skip:=@Go.Conc.stepG_skip
end
end Go
