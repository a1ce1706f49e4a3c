import GoSem.Step
set_option maxRecDepth 100000
set_option maxHeartbeats 8000000
namespace Go
section
abbrev J(x:Int):Value:=.int .i64 x
abbrev aT(b o:Nat):Addr:=⟨b,o,none⟩
abbrev pT(b o:Nat):Value:=.pointer (some ⟨b,o,none⟩)
abbrev sT(b n c:Nat):Value:=.slice (some ⟨b,0,none⟩) n c
abbrev sN:Value:=.slice none 0 0
abbrev World.z(w:World):Nat:=w.heap.size
end
end Go
