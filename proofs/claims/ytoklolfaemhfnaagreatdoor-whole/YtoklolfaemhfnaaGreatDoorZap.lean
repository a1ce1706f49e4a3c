import Derived.Test.YtoklolfaemhfnaaGreatDoorZan
set_option maxRecDepth 100000
set_option maxHeartbeats 8000000
namespace Go.Proofs.YtoklolfaemhfnaaGreatDoor.Codec
section
structure Msg where
 sender:Int
 seq:Int
 time:List Int
 text:ByteArray
structure Frame where
 kind:Int
 src:Int
 dst:Int
 members:Int
 view:Int
 ballot:Int
 voted:Int
 row:List Int
 cut:List Int
 msgs:List Msg
def inB(n low high:Int):Bool:=decide (low<=n) && decide (n<=high)
def listFits(l:List Int):Bool:=decide (l.length<=6) && l.all (fun n=>inB n 0 20)
def msgFits(m:Msg):Bool:=inB m.sender 0 5 && inB m.seq 1 20 && listFits m.time && decide (m.text.size<=16)
def msgsFit(l:List Msg):Bool:=decide (l.length<=200) && l.all msgFits
def headFits(f:Frame):Bool:=inB f.kind 1 7 && inB f.src 0 5 && inB f.dst 0 5 && inB f.members 0 63
def ballotsFit(f:Frame):Bool:=inB f.view 0 2147483647 && inB f.ballot 0 2147483647 && inB f.voted 0 2147483647
def fits(f:Frame):Bool:=headFits f && ballotsFit f && listFits f.row && listFits f.cut && msgsFit f.msgs
theorem inB_iff{n low high:Int}:inB n low high=true↔low<=n/\n<=high:=by simp[inB]
def b8(n:Int):UInt8:=UInt8.ofNat n.toNat
theorem b8_toNat{n:Int}(h0:0<=n)(h1:n<256):((b8 n).toNat:Int)=n:=by
 simp[b8];omega
def word4(n:Nat):List UInt8:=[UInt8.ofNat (n / 16777216),UInt8.ofNat (n / 65536),UInt8.ofNat (n / 256),UInt8.ofNat n]
def numsB(l:List Int):List UInt8:=UInt8.ofNat l.length::l.map b8
def msgB(m:Msg):List UInt8:=[b8 m.sender,b8 m.seq]++numsB m.time++[UInt8.ofNat m.text.size]++m.text.data.toList
def msgsB(l:List Msg):List UInt8:=(l.map msgB).flatten
def bodyB(f:Frame):List UInt8:=
 [b8 f.kind,b8 f.src,b8 f.dst,b8 f.members]++word4 f.view.toNat++word4 f.ballot.toNat++word4 f.voted.toNat++numsB f.row++numsB f.cut++[UInt8.ofNat f.msgs.length]++msgsB f.msgs
def encB(f:Frame):List UInt8:=bodyB f++word4 (Crc.sum (bodyB f))
theorem msgsB_snoc(l:List Msg)(m:Msg):msgsB (l++[m])=msgsB l++msgB m:=by simp[msgsB]
def oct:List UInt8->Int × List UInt8
 |[]=>(0,[])
 |b::r=>((b.toNat:Int),r)
def octs:Nat->List UInt8->List Int × List UInt8
 |0,s=>([],s)
 |n+1,s=>((oct s).1::(octs n (oct s).2).1,(octs n (oct s).2).2)
def nums(s:List UInt8):List Int × List UInt8:=octs (oct s).1.toNat (oct s).2
def word(s:List UInt8):Int × List UInt8:=
 ((((oct s).1 * 256+(oct (oct s).2).1) * 256+(oct (oct (oct s).2).2).1) * 256+(oct (oct (oct (oct s).2).2).2).1,(oct (oct (oct (oct s).2).2).2).2)
def text(s:List UInt8):ByteArray × List UInt8:=(⟨((oct s).2.take (oct s).1.toNat).toArray⟩,(oct s).2.drop (oct s).1.toNat)
def msg(s:List UInt8):Msg × List UInt8:=
 let a:=oct s
 let b:=oct a.2
 let t:=nums b.2
 let x:=text t.2
 (⟨a.1,b.1,t.1,x.1⟩,x.2)
def msgs:Nat->List UInt8->List Msg × List UInt8
 |0,s=>([],s)
 |n+1,s=>((msg s).1::(msgs n (msg s).2).1,(msgs n (msg s).2).2)
def frame(s:List UInt8):Frame × List UInt8:=
 let k:=oct s
 let a:=oct k.2
 let b:=oct a.2
 let m:=oct b.2
 let v:=word m.2
 let u:=word v.2
 let t:=word u.2
 let r:=nums t.2
 let c:=nums r.2
 let n:=oct c.2
 let l:=msgs n.1.toNat n.2
 (⟨k.1,a.1,b.1,m.1,v.1,u.1,t.1,r.1,c.1,l.1⟩,l.2)
theorem qck(b:UInt8)(r:List UInt8):oct (b::r)=((b.toNat:Int),r):=rfl
theorem qmr(l:List Int)(r:List UInt8)(h:l.all (fun n=>inB n 0 20)=true):octs l.length (l.map b8++r)=(l,r):=by
 induction l with
 |nil=>rfl
 | cons x l ih =>
   simp only[List.all_cons,Bool.and_eq_true] at h;have hx:=inB_iff.1 h.1;simp only[List.length_cons,List.map_cons,List.cons_append,octs,qck,ih h.2,b8_toNat hx.1 (by omega)]
theorem qey(l:List Int)(r:List UInt8)(h:listFits l=true):nums (numsB l++r)=(l,r):=by
 simp only[listFits,Bool.and_eq_true,decide_eq_true_eq] at h;have e:(UInt8.ofNat l.length).toNat=l.length:=by simp;omega
 simp only[nums,numsB,List.cons_append,qck,e,Int.toNat_natCast,qmr l r h.2]
theorem qbp(n:Nat)(r:List UInt8)(h:n<4294967296):word (word4 n++r)=((n:Int),r):=by
 simp only[word,word4,List.cons_append,List.nil_append,qck];simp;omega
theorem qms(t:ByteArray)(r:List UInt8)(h:t.size<=16):text (UInt8.ofNat t.size::(t.data.toList++r))=(t,r):=by
 have e:(UInt8.ofNat t.size).toNat=t.size:=by simp;omega
 have l:t.data.toList.length=t.size:=by rw[Array.length_toList];rfl
 simp only[text,qck,e,Int.toNat_natCast];rw[<-l,List.take_left,List.drop_left]
theorem qon(m:Msg)(r:List UInt8)(h:msgFits m=true):msg (msgB m++r)=(m,r):=by
 simp only[msgFits,Bool.and_eq_true,decide_eq_true_eq] at h;obtain⟨⟨⟨h1,h2⟩,h3⟩,h4⟩:=h;have g1:=inB_iff.1 h1;have g2:=inB_iff.1 h2;simp only[msg,msgB,List.cons_append,List.nil_append,List.append_assoc,qck,qey _ _ h3,qms _ _ h4,b8_toNat g1.1 (by omega),b8_toNat (show (0:Int)<=m.seq by omega) (by omega)]
theorem qmt(l:List Msg)(r:List UInt8)(h:l.all msgFits=true):msgs l.length (msgsB l++r)=(l,r):=by
 induction l with
 |nil=>rfl
 | cons m l ih =>
   simp only[List.all_cons,Bool.and_eq_true] at h;have e:msgsB (m::l)++r=msgB m++(msgsB l++r):=by simp[msgsB]
   rw[e];simp only[List.length_cons,msgs,qon m _ h.1,ih h.2]
theorem qk8(f:Frame)(r:List UInt8)(h:fits f=true):frame (bodyB f++r)=(f,r):=by
 simp only[fits,headFits,ballotsFit,Bool.and_eq_true] at h;obtain⟨⟨⟨⟨⟨⟨⟨a1,a2⟩,a3⟩,a4⟩,⟨⟨b1,b2⟩,b3⟩⟩,hr⟩,hc⟩,hm⟩:=h;rw[inB_iff] at a1 a2 a3 a4 b1 b2 b3;simp only[msgsFit,Bool.and_eq_true,decide_eq_true_eq] at hm;have e:(UInt8.ofNat f.msgs.length).toNat=f.msgs.length:=by simp;omega
 simp only[frame,bodyB,List.cons_append,List.nil_append,List.append_assoc,qck,qbp _ _ (show f.view.toNat<4294967296 by omega),qbp _ _ (show f.ballot.toNat<4294967296 by omega),
  qbp _ _ (show f.voted.toNat<4294967296 by omega),qey _ _ hr,qey _ _ hc,e,Int.toNat_natCast,qmt _ _ hm.2,
  b8_toNat (show (0:Int)<=f.kind by omega) (by omega),b8_toNat a2.1 (by omega),b8_toNat a3.1 (by omega),b8_toNat a4.1 (by omega)]
 rw[Int.toNat_of_nonneg b1.1,Int.toNat_of_nonneg b2.1,Int.toNat_of_nonneg b3.1]
theorem read_back(f:Frame)(h:fits f=true):(frame (encB f)).1=f:=by
 rw[encB,qk8 f _ h]
def isFrame(s:List UInt8):Bool:=fits (frame s).1 && decide (encB (frame s).1=s)
theorem isFrame_enc(f:Frame)(h:fits f=true):isFrame (encB f)=true:=by
 simp[isFrame,read_back f h,h]
theorem qq2{x y:Nat}(hx:x<4294967296)(hy:y<4294967296)(h:Crc.sh x=Crc.sh y):x=y:=by
 have hb:∀j,(Crc.sh x).testBit j=(Crc.sh y).testBit j:=fun j=>by rw[h]
 have x32:∀j,32<=j->x.testBit j=false:=fun j hj=>Nat.testBit_lt_two_pow (Nat.lt_of_lt_of_le hx (Nat.pow_le_pow_right (n:=2) (by omega) hj));have y32:∀j,32<=j->y.testBit j=false:=fun j hj=>Nat.testBit_lt_two_pow (Nat.lt_of_lt_of_le hy (Nat.pow_le_pow_right (n:=2) (by omega) hj));have h0:x.testBit 0=y.testBit 0:=by
  have:=hb 31;rw[Crc.sh_testBit,Crc.sh_testBit,x32 32 (by omega),y32 32 (by omega)] at this;have p:(0xEDB88320:Nat).testBit 31=true:=by decide
  rw[p] at this;simpa using this
 apply Nat.eq_of_testBit_eq;intro j;cases j with
 |zero=>exact h0
 | succ j =>
   have:=hb j;rw[Crc.sh_testBit,Crc.sh_testBit,h0] at this;revert this
   cases x.testBit (j+1) <;> cases y.testBit (j+1) <;> cases (y.testBit 0 && (0xEDB88320:Nat).testBit j) <;> simp
theorem qmu{x y:Nat}(t:Nat)(hx:x<4294967296)(hy:y<4294967296)(h:Crc.shs t x=Crc.shs t y):x=y:=by
 induction t with
 |zero=>exact h
 |succ t ih=>exact ih (qq2 (Crc.shs_lt t x hx) (Crc.shs_lt t y hy) h)
theorem qdk{x y b:Nat}(h:x ^^^ b=y ^^^ b):x=y:=by
 have:(x ^^^ b) ^^^ b=(y ^^^ b) ^^^ b:=by rw[h]
 simpa[Nat.xor_assoc] using this
theorem qoo(l:List UInt8):∀{x y:Nat},x<4294967296->y<4294967296->
 l.foldl (fun w b=>Crc.shs 8 (w ^^^ b.toNat)) x=l.foldl (fun w b=>Crc.shs 8 (w ^^^ b.toNat)) y->x=y:=by
 induction l with
 |nil=>intro x y _ _ h;exact h
 | cons b l ih =>
   intro x y hx hy h;have bx:x ^^^ b.toNat<4294967296:=Nat.xor_lt_two_pow (n:=32) hx (by have:=b.toNat_lt;omega);have by':y ^^^ b.toNat<4294967296:=Nat.xor_lt_two_pow (n:=32) hy (by have:=b.toNat_lt;omega);exact qdk (qmu 8 bx by' (ih (Crc.shs_lt 8 _ bx) (Crc.shs_lt 8 _ by') h))
theorem qp8(p q:List UInt8)(b c:UInt8)(h:Crc.crc (p++b::q)=Crc.crc (p++c::q)):b=c:=by
 simp only[Crc.crc,List.foldl_append,List.foldl_cons] at h;have hp:p.foldl (fun w b=>Crc.shs 8 (w ^^^ b.toNat)) Crc.start<4294967296:=Crc.crc_lt p;generalize p.foldl (fun w b=>Crc.shs 8 (w ^^^ b.toNat)) Crc.start=w at h hp;have bb:w ^^^ b.toNat<4294967296:=Nat.xor_lt_two_pow (n:=32) hp (by have:=b.toNat_lt;omega);have bc:w ^^^ c.toNat<4294967296:=Nat.xor_lt_two_pow (n:=32) hp (by have:=c.toNat_lt;omega);have:=qmu 8 bb bc (qoo q (Crc.shs_lt 8 _ bb) (Crc.shs_lt 8 _ bc) h);rw[Nat.xor_comm w,Nat.xor_comm w] at this;exact UInt8.toNat_inj.1 (qdk this)
theorem qp9(p q:List UInt8)(b c:UInt8)(h:Crc.sum (p++b::q)=Crc.sum (p++c::q)):b=c:=
 qp8 p q b c (qdk h)
theorem word4_length(n:Nat):(word4 n).length=4:=rfl
theorem qop(A B:List UInt8)(p q:List UInt8)(b c:UInt8)(hA:A++word4 (Crc.sum A)=p++b::q)(hB:B++word4 (Crc.sum B)=p++c::q):b=c:=by
 have hl:A.length=B.length:=by
  have h1:=congrArg List.length hA;have h2:=congrArg List.length hB;simp[word4_length] at h1 h2;omega
 by_cases hp:p.length<A.length
 ·
  have hAp:A=p++b::q.take (A.length - p.length - 1):=by
   have h:=congrArg (List.take A.length) hA;rw[List.take_left] at h;rw[h,List.take_append,List.take_of_length_le (by omega),List.take_cons (by omega)];simp
  have hBp:B=p++c::q.take (A.length - p.length - 1):=by
   have h:=congrArg (List.take B.length) hB;rw[List.take_left] at h;rw[h,List.take_append,List.take_of_length_le (by omega),List.take_cons (by omega)];simp[hl]
  have hs:word4 (Crc.sum A)=word4 (Crc.sum B):=by
   have h1:=congrArg (List.drop A.length) hA;have h2:=congrArg (List.drop B.length) hB;rw[List.drop_left] at h1 h2;rw[h1,h2,hl,List.drop_append,List.drop_append,List.drop_of_length_le (by omega)];have e:B.length - p.length=(B.length - p.length - 1)+1:=by omega
   rw[e];rfl
  have hw:∀n m:Nat,n<4294967296->m<4294967296->word4 n=word4 m->n=m:=by
   intro n m hn hm h;have h1:=qbp n [] hn;have h2:=qbp m [] hm;rw[h,h2] at h1;have:(m:Int)=(n:Int):=congrArg Prod.fst h1;omega
  have:=hw _ _ (Crc.sum_lt A) (Crc.sum_lt B) hs;rw[hAp,hBp] at this;exact qp9 _ _ _ _ this
 ·
  have hAB:A=B:=by
   have h1:=congrArg (List.take A.length) hA;have h2:=congrArg (List.take B.length) hB;rw[List.take_left] at h1 h2;rw[h1,h2,hl,List.take_append_of_le_length (by omega),List.take_append_of_le_length (by omega)]
  have:p++b::q=p++c::q:=by rw[<-hA,<-hB,hAB]
  have:=List.append_cancel_left this;exact(List.cons.inj this).1
theorem spoilt(f:Frame)(p q:List UInt8)(b c:UInt8)(hs:encB f=p++b::q)(hne:c≠b):isFrame (p++c::q)=false:=by
 cases h:isFrame (p++c::q) with
 |false=>rfl
 | true =>
   simp only[isFrame,Bool.and_eq_true,decide_eq_true_eq] at h;exact absurd (qop _ _ _ _ _ _ h.2 hs) hne
end
end Go.Proofs.YtoklolfaemhfnaaGreatDoor.Codec
