import Derived.Test.YtoklolfaemhfnaaGreatDoorZam
import Derived.Test.YtoklolfaemhfnaaGreatDoorZan
set_option maxRecDepth 100000
set_option maxHeartbeats 8000000
namespace Go.Proofs.YtoklolfaemhfnaaGreatDoor
section
open Go.RowKit
theorem qp6(x:Nat)(hx:x<4294967296):bits .and .u32 (x:Int) 1=((x % 2:Nat):Int):=by
 have:=u32_and_nat x 1 hx (by omega);rw[Nat.and_one_is_mod] at this;exact this
theorem qok(x:Nat)(hx:x<4294967296):bits .xor .u32 ((x:Int) / 2) 3988292384=((x / 2 ^^^ 3988292384:Nat):Int):=by
 have:=u32_xor_nat (x / 2) 3988292384 (by omega) (by omega);rw[<-this];rfl
theorem qh8(x:Nat)(hx:x<4294967296)(w:World) :
 Calls Tryz.prog 252 #[.int .u32 x] w fun e w'=>e=.returned (.int .u32 (Crc.sh x))/\w'=w:=by
 have h1:=qp6 x hx;have h2:=qok x hx;by_cases hp:x % 2=1
 ·have h3:Crc.sh x=x / 2 ^^^ 3988292384:=by simp[Crc.sh,hp]
  have H3:Hid (Crc.sh x=x / 2 ^^^ 3988292384):=h3;have H2:Hid (bits .xor .u32 ((x:Int) / 2) 3988292384=((x / 2 ^^^ 3988292384:Nat):Int)):=h2;clear h2 h3;have h4:(bits .and .u32 (x:Int) 1 == 1)=true:=by rw[h1];simp;omega
  clear h1;go_enter Tryz.func252,Tryz.ntmps252
  go_wp2
  go_ret;exact⟨qbg (by rw[H2.out,H3.out]),rfl⟩
 ·have H3:Hid (Crc.sh x=x / 2):=by show Crc.sh x=x / 2;simp[Crc.sh,hp]
  have h4:(bits .and .u32 (x:Int) 1 == 1)=false:=by rw[h1];simp;omega
  clear h1 h2;go_enter Tryz.func252,Tryz.ntmps252
  go_wp2
  go_ret;exact⟨qbg (by rw[H3.out];simp),rfl⟩
theorem qol(c:Nat)(hc:c<4294967296)(b:UInt8):bits .xor .u32 (c:Int) ((b.toNat:Int) % 4294967296)=((c ^^^ b.toNat:Nat):Int):=by
 have hb:=b.toNat_lt;have:=u32_xor_nat c b.toNat hc (by omega);rw[<-this,show (b.toNat:Int) % 4294967296=b.toNat from by omega]
theorem qp7(c:Nat)(hc:c<4294967296):bits .xor .u32 IntKind.u32.max (c:Int)=((c ^^^ 4294967295:Nat):Int):=by
 have:=u32_xor_nat 4294967295 c (by omega) hc;rw[Nat.xor_comm,<-this];rfl
theorem byteAt(s:ByteArray)(k:Nat)(h:k<s.size):s.data.toList.getD k 0=s[k]:=by
 rw[yj,yh (by simpa using h)];rfl
theorem sizeLen(s:ByteArray):s.data.toList.length=s.size:=by rw[yab];rfl
theorem qje(s:ByteArray)(w:World)(hs:s.size<=maxLen) :
 Calls Tryz.prog 207 #[.string s] w fun e w'=>e=.returned (.int .u32 (Crc.sum s.data.toList))/\w'=w:=by
 unfold maxLen at hs;go_enter Tryz.func207,Tryz.ntmps207
 go_wp2
 go_loop [3,7] (fun v i=>∃k c:Nat,k<=s.size/\i=J k/\v=.int .u32 c/\c<4294967296/\Hid (c=Crc.crc (s.data.toList.take k))) (fun _ i=>s.size - (intOf i).toNat)
 case atStart=>exact⟨0,4294967295,yaA _,rfl,rfl,by omega,rfl⟩
 case round=>
  obtain⟨k,c,hk,rfl,rfl,hc,HC⟩:=hrel;by_cases hlt:k<s.size
  ·have hx:=qol c hc s[k];have hb:c ^^^ s[k].toNat<4294967296:=Nat.xor_lt_two_pow (n:=32) (by omega) (by have:=s[k].toNat_lt;omega);have HB:Hid (c ^^^ s[k].toNat=Crc.crc (s.data.toList.take k) ^^^ (s.data.toList.getD k 0).toNat):=by
    show _=_;rw[HC.out,byteAt s k hlt]
   go_wp2
   clear hx;generalize c ^^^ s[k].toNat=x at hb HB ⊢;go_loop [3,16] (fun v j=>∃t y:Nat,t<=8/\j=J t/\v=.int .u32 y/\y<4294967296/\Hid (y=Crc.shs t x)) (fun _ j=>8 - (intOf j).toNat)
   case atStart=>exact⟨0,x,by omega,rfl,rfl,hb,rfl⟩
   case round=>
    obtain⟨t,y,ht,rfl,rfl,hy,HY⟩:=hrel;by_cases hlt2:t<8
    ·go_wp2_with (go_at_call 252;refine(qh8 y hy _).mono ?_;rintro e w' ⟨rfl,rfl⟩)
     go_round
     case rel=>exact⟨t+1,Crc.sh y,by omega,by go_num,rfl,Crc.sh_lt y hy,by rw[HY.out];exact rfl⟩
     case measure=>simp[intOf];omega
    ·go_wp2
     go_round
     case rel=>exact⟨k+1,y,by omega,by go_num,rfl,hy,by
      show _=_;rw[HY.out,HB.out,show t=8 from by omega,Crc.crc_step _ k (by rw[sizeLen];exact hlt)]⟩
     case measure=>simp[intOf];omega
  ·go_wp2
   go_ret;exact⟨qbg (by rw[qp7 c hc,HC.out,yX (by rw[sizeLen];omega)];rfl),rfl⟩
theorem info3:(Tryz.prog.info? 3).map (fun i=>(i.zero,i.size,i.bytes))=some (some (J 0),1,8):=by kernel_rfl
theorem qmq(l:List Int)(x:Int):ints l++[J x]=ints (l++[x]):=by simp[ints]
theorem qom{w:World}{base g n cap:Nat}{l:List Int}(h:w.ownsRow base 3 1 (sT g n cap) n (ints l))(hl:l.length=n)(j:Nat)(hj:j<n) :
 w.cell? (aT g j)=some (J (l.getD j 0)):=by
 rw[h.cellAt j (by omega),ints,yZ,yh (by omega),yj,yh (by omega)];rfl
end
end Go.Proofs.YtoklolfaemhfnaaGreatDoor
