set_option maxRecDepth 100000
set_option maxHeartbeats 8000000
namespace Go.Proofs.YtoklolfaemhfnaaGreatDoor.Crc
section
def sh(w:Nat):Nat:=if w % 2=1 then (w / 2) ^^^ 0xEDB88320 else w / 2
def shs:Nat->Nat->Nat
 |0,w=>w
 |t+1,w=>sh (shs t w)
def start:Nat:=4294967295
def crc(bs:List UInt8):Nat:=bs.foldl (fun w b=>shs 8 (w ^^^ b.toNat)) start
def sum(bs:List UInt8):Nat:=crc bs ^^^ 4294967295
theorem sh_testBit(w j:Nat):(sh w).testBit j=(w.testBit (j+1) ^^ (w.testBit 0 && (0xEDB88320:Nat).testBit j)):=by
 unfold sh;by_cases h:w % 2=1
 ·rw[if_pos h,Nat.testBit_xor];simp[Nat.testBit_zero,h,Nat.testBit_succ]
 ·rw[if_neg h];simp[Nat.testBit_zero,h,Nat.testBit_succ]
theorem sh_lt(w:Nat)(h:w<4294967296):sh w<4294967296:=by
 unfold sh;split
 ·exact Nat.xor_lt_two_pow (n:=32) (by omega) (by omega)
 ·omega
theorem shs_lt(t w:Nat)(h:w<4294967296):shs t w<4294967296:=by
 induction t with
 |zero=>exact h
 |succ t ih=>exact sh_lt _ ih
theorem qoj(bs:List UInt8)(b:UInt8):crc (bs++[b])=shs 8 (crc bs ^^^ b.toNat):=by
 simp[crc]
theorem crc_lt(bs:List UInt8):crc bs<4294967296:=by
 suffices ∀(l:List UInt8) (w:Nat),w<4294967296->l.foldl (fun w b=>shs 8 (w ^^^ b.toNat)) w<4294967296 from this bs start (by decide);intro l;induction l with
 |nil=>intro w h;exact h
 | cons b l ih =>
   intro w h;exact ih _ (shs_lt _ _ (Nat.xor_lt_two_pow (n:=32) (by omega) (by have:=b.toNat_lt;omega)))
def msgBit(bs:List UInt8)(k:Nat):Bool:=(bs.getD (k / 8) 0).toNat.testBit (k % 8)
def reg(bs:List UInt8):Nat->Nat
 |0=>start
 |i+1=>sh (reg bs i ^^^ (msgBit bs i).toNat)
theorem qfx(bs:List UInt8)(k:Nat)(h:k<bs.length):bs.take (k+1)=bs.take k++[bs.getD k 0]:=by
 rw[List.take_succ_eq_append_getElem h,List.getD_eq_getElem?_getD,List.getElem?_eq_getElem h];rfl
theorem crc_step(bs:List UInt8)(k:Nat)(h:k<bs.length):crc (bs.take (k+1))=shs 8 (crc (bs.take k) ^^^ (bs.getD k 0).toNat):=by
 rw[qfx bs k h,qoj]
def b2i(b:Bool):Int:=if b then 1 else 0
def turned(bs:List UInt8)(k:Nat)(l:List Int):Prop:=
 l.length=8 * bs.length+32/\∀j,j<l.length->l.getD j 0=b2i (msgBit bs j ^^ decide (j<k))
theorem sum_lt(bs:List UInt8):sum bs<4294967296:=Nat.xor_lt_two_pow (n:=32) (crc_lt bs) (by omega)
end
end Go.Proofs.YtoklolfaemhfnaaGreatDoor.Crc
