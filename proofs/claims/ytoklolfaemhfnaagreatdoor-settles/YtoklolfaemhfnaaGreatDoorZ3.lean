import Derived.Below
import Derived.Test.YtoklolfaemhfnaaGreatDoorZ1
abbrev Ϟ(w a:Go.World):=Go.RowKit.Below w.heap.size w a
theorem Ϡ{n:Nat}{w:Go.World}:Go.RowKit.Below n w w:=.refl n w
