import Derived.Test.YtoklolfaemhfnaaGreatDoorZ3
import Derived.Below
import Derived.Calls
import Derived.Deep.AppendLies
import Derived.Laws.AppendOwn
import Derived.Laws.BitsLemmas
import Derived.Laws.World
set_option maxRecDepth 100000
set_option maxHeartbeats 0
set_option linter.defProp false
namespace Go
section
def yi:type_of% @RowKit.Below.refl:=@RowKit.Below.refl
theorem yq:type_of% @Go.World.cell?_of_block:=@Go.World.cell?_of_block
def yG:type_of% @Go.Frame.finish_at:=@Go.Frame.finish_at
def yI:type_of% @Go.World.block_lt_of_cell?:=@Go.World.block_lt_of_cell?
def yQ:type_of% @RowKit.Below.heap_alloc:=@RowKit.Below.heap_alloc
theorem yT:type_of% @RowKit.Below.heap_setCell:=@RowKit.Below.heap_setCell
def y9:type_of% @Go.World.ownsRow_nil:=@Go.World.ownsRow_nil
def G4:type_of% @Go.World.frozen?_of_block:=@Go.World.frozen?_of_block
def LX:type_of% @Go.IntKind.wrap_i64:=@Go.IntKind.wrap_i64
def I4:type_of% @Go.World.cell?_alloc_lt:=@Go.World.cell?_alloc_lt
def IZ:type_of% @Go.World.news_of_block:=@Go.World.news_of_block
