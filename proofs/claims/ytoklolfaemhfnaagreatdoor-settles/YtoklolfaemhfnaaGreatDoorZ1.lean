import GoSem.Step
import Derived.Test.YtoklolfaemhfnaaGreatDoorZ0
abbrev Δ:=Go.World
abbrev Θ:=Go.Value
abbrev Ξ:=Go.World->Prop
abbrev Ϥ:=Go.Event->Prop
abbrev Ϛ:=Go.Goroutine
abbrev ϛ:=Go.Program
abbrev ϟ:=Go.TypeId
abbrev ϡ:=Array Go.Value
abbrev Ϣ:=List Go.Value
abbrev ϣ:=Option Go.Addr
abbrev ϲ(x:Int):Go.Value:=.int .i64 x
abbrev ϳ:Go.Value:=.tuple #[]
