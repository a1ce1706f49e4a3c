abbrev ϑ:=Nat->Prop
abbrev Υ:=List Int
abbrev Ϙ:=List Nat
abbrev ϝ:=ByteArray
abbrev Ϭ:=List UInt8
theorem Ϫ{n:Nat}:n<=n:=Nat.le_refl n
theorem ϭ{x:Int}:x<=x:=Int.le_refl x
