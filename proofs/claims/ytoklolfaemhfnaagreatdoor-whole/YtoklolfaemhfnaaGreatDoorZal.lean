import Derived.Below
import Derived.Calls
import Derived.Deep.AppendLies
import Derived.Laws.AppendOwn
import Derived.Laws.BitsLemmas
import Derived.Laws.World
set_option maxRecDepth 100000
set_option maxHeartbeats 8000000
namespace Go
section
theorem yi:type_of% @Go.RowKit.Below.refl:=@Go.RowKit.Below.refl
theorem yq:type_of% @Go.World.cell?_of_block:=@Go.World.cell?_of_block
theorem yG:type_of% @Go.Frame.finish_at:=@Go.Frame.finish_at
theorem yI:type_of% @Go.World.block_lt_of_cell?:=@Go.World.block_lt_of_cell?
theorem yQ:type_of% @Go.RowKit.Below.heap_alloc:=@Go.RowKit.Below.heap_alloc
theorem yT:type_of% @Go.RowKit.Below.heap_setCell:=@Go.RowKit.Below.heap_setCell
theorem y9:type_of% @Go.World.ownsRow_nil:=@Go.World.ownsRow_nil
theorem yae:type_of% @Go.World.frozen?_of_block:=@Go.World.frozen?_of_block
theorem yat:type_of% @Go.IntKind.wrap_i64:=@Go.IntKind.wrap_i64
theorem yax:type_of% @Go.World.cell?_alloc_lt:=@Go.World.cell?_alloc_lt
theorem yaB:type_of% @Go.World.news_of_block:=@Go.World.news_of_block
end
end Go
