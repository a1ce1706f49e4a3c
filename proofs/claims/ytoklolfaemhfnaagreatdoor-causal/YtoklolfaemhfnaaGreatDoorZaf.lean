set_option maxRecDepth 100000
set_option maxHeartbeats 0
set_option linter.defProp false
section
def ω{p:Prop}(h:p:=by omega):p:=h
def ς{p:Prop}(h:p:=by simp):p:=h
def θ{p:Prop}(h:p:=by decide):p:=h
def ν{p:Prop}(h:p:=by grind):p:=h
end
namespace Go.Proofs.YtoklolfaemhfnaaGreatDoor.Crc
section
variable {bs:List UInt8}{l:List Int}{i:Nat}
def sh(w:Nat):Nat:=if w % 2=1 then (w / 2) ^^^ 0xEDB88320 else w / 2
def uX:Nat->Nat->Nat
 |0,w=>w
 |t+1,w=>sh (uX t w)
def start:Nat:=4294967295
def xG(bs:List UInt8):Nat:=bs.foldl (fun w b=>uX 8 (w ^^^ b.toNat)) start
def zU(bs:List UInt8):Nat:=xG bs ^^^ 4294967295
def eH(w j:Nat):(sh w).testBit j=(w.testBit (j+1) ^^ (w.testBit 0 && (0xEDB88320:Nat).testBit j)):=by
 unfold sh;grind
def Dy(w:Nat)(h:w<4294967296):sh w<4294967296:=by
 unfold sh;split
 ·exact Nat.xor_lt_two_pow (n:=32) ω ω
 ·omega
def la(t w:Nat)(h:w<4294967296):uX t w<4294967296:=by
 induction t with
 |zero=>exact h
 |succ t a=>exact Dy _ a
def Dw(a:List UInt8)(b:UInt8):xG (a++[b])=uX 8 (xG a ^^^ b.toNat):=by
 simp[xG]
def Dv(a:List UInt8):xG a<4294967296:=by
 suffices ∀(l:List UInt8) (w:Nat),w<4294967296->l.foldl (fun w b=>uX 8 (w ^^^ b.toNat)) w<4294967296 from this a _ θ;intro l;induction l with
 |nil=>simp
 | cons b l c =>
   intro w h;exact c _ (la _ _ (Nat.xor_lt_two_pow (n:=32) ω (by have:=b.toNat_lt;omega)))
def po(a:List UInt8)(k:Nat)(h:k<a.length):a.take (k+1)=a.take k++[a.getD k 0]:=by
 simp_all
def uU(a:List UInt8)(k:Nat)(h:k<a.length):xG (a.take (k+1))=uX 8 (xG (a.take k) ^^^ (a.getD k 0).toNat):=by
 rw[po a k h,Dw]
def sZ(a:List UInt8):zU a<4294967296:=Nat.xor_lt_two_pow (n:=32) (Dv a) ω
end
end Go.Proofs.YtoklolfaemhfnaaGreatDoor.Crc
namespace Go.Proofs.YtoklolfaemhfnaaGreatDoor.Codec
section
variable {x y:Nat}{n:Int}
structure Msg where
 a:Int
 seq:Int
 c:List Int
 b:ByteArray
structure Frame where
 c:Int
 f:Int
 j:Int
 b:Int
 h:Int
 a:Int
 e:Int
 g:List Int
 i:List Int
 d:List Msg
def iq(n low high:Int):Bool:=decide (low<=n) && decide (n<=high)
def aA(l:List Int):Bool:=decide (l.length<=6) && l.all (fun n=>iq n 0 20)
def aK(m:Msg):Bool:=iq m.a 0 5 && iq m.seq 1 20 && aA m.c && decide (m.b.size<=16)
def cd(l:List Msg):Bool:=decide (l.length<=200) && l.all aK
def dk(f:Frame):Bool:=iq f.c 1 7 && iq f.f 0 5 && iq f.j 0 5 && iq f.b 0 63
def bS(f:Frame):Bool:=iq f.h 0 2147483647 && iq f.a 0 2147483647 && iq f.e 0 2147483647
def dg(f:Frame):Bool:=dk f && bS f && aA f.g && aA f.i && cd f.d
def de{b a:Int}:iq n b a=true↔b<=n/\n<=a:=by simp[iq]
def b8(n:Int):UInt8:=UInt8.ofNat n.toNat
def ca(b:0<=n)(a:n<256):((b8 n).toNat:Int)=n:=by
 simp[b8];omega
def cj(n:Nat):List UInt8:=[UInt8.ofNat (n / 16777216),UInt8.ofNat (n / 65536),UInt8.ofNat (n / 256),UInt8.ofNat n]
def dH(l:List Int):List UInt8:=UInt8.ofNat l.length::l.map b8
def pn(m:Msg):List UInt8:=[b8 m.a,b8 m.seq]++dH m.c++[UInt8.ofNat m.b.size]++m.b.data.toList
def ef(l:List Msg):List UInt8:=(l.map pn).flatten
def gT(f:Frame):List UInt8:=
 [b8 f.c,b8 f.f,b8 f.j,b8 f.b]++cj f.h.toNat++cj f.a.toNat++cj f.e.toNat++dH f.g++dH f.i++[UInt8.ofNat f.d.length]++ef f.d
def im(f:Frame):List UInt8:=gT f++cj (Crc.zU (gT f))
def xE(l:List Msg)(m:Msg):ef (l++[m])=ef l++pn m:=by simp[ef]
def eW:List UInt8->Int × List UInt8
 |[]=>(0,[])
 |b::r=>((b.toNat:Int),r)
def gM:Nat->List UInt8->List Int × List UInt8
 |0,s=>([],s)
 |n+1,s=>((eW s).1::(gM n (eW s).2).1,(gM n (eW s).2).2)
def mW(s:List UInt8):List Int × List UInt8:=gM (eW s).1.toNat (eW s).2
def ky(s:List UInt8):Int × List UInt8:=
 ((((eW s).1 * 256+(eW (eW s).2).1) * 256+(eW (eW (eW s).2).2).1) * 256+(eW (eW (eW (eW s).2).2).2).1,(eW (eW (eW (eW s).2).2).2).2)
def uR(s:List UInt8):ByteArray × List UInt8:=(⟨((eW s).2.take (eW s).1.toNat).toArray⟩,(eW s).2.drop (eW s).1.toNat)
def Cz(s:List UInt8):Msg × List UInt8:=
 let a:=eW s
 let b:=eW a.2
 let t:=mW b.2
 let x:=uR t.2
 (⟨a.1,b.1,t.1,x.1⟩,x.2)
def jD:Nat->List UInt8->List Msg × List UInt8
 |0,s=>([],s)
 |n+1,s=>((Cz s).1::(jD n (Cz s).2).1,(jD n (Cz s).2).2)
def bO(s:List UInt8):Frame × List UInt8:=
 let k:=eW s
 let a:=eW k.2
 let b:=eW a.2
 let m:=eW b.2
 let v:=ky m.2
 let u:=ky v.2
 let t:=ky u.2
 let r:=mW t.2
 let c:=mW r.2
 let n:=eW c.2
 let l:=jD n.1.toNat n.2
 (⟨k.1,a.1,b.1,m.1,v.1,u.1,t.1,r.1,c.1,l.1⟩,l.2)
def iB(b:UInt8)(r:List UInt8):eW (b::r)=((b.toNat:Int),r):=rfl
def Bj(l:List Int)(r:List UInt8)(h:l.all (fun n=>iq n 0 20)=true):gM l.length (l.map b8++r)=(l,r):=by
 induction l with
 |nil=>rfl
 | cons x l b =>
   simp only[List.all_cons,Bool.and_eq_true] at h;have a:=de.1 h.1;simp only[List.length_cons,List.map_cons,List.cons_append,gM,iB,b h.2,ca a.1 ω]
def mX(l:List Int)(r:List UInt8)(h:aA l=true):mW (dH l++r)=(l,r):=by
 simp only[aA,Bool.and_eq_true,decide_eq_true_eq] at h;have e:(UInt8.ofNat l.length).toNat=l.length:=by simp;omega
 simp only[mW,dH,List.cons_append,iB,e,Int.toNat_natCast,Bj l r h.2]
def gi(n:Nat)(r:List UInt8)(h:n<4294967296):ky (cj n++r)=((n:Int),r):=by
 simp only[ky,cj,List.cons_append,List.nil_append,iB];simp;omega
def Bl(t:ByteArray)(r:List UInt8)(h:t.size<=16):uR (UInt8.ofNat t.size::(t.data.toList++r))=(t,r):=by
 have e:(UInt8.ofNat t.size).toNat=t.size:=by simp;omega
 simp only[uR,iB,e,Int.toNat_natCast];simp
def Dt(m:Msg)(r:List UInt8)(h:aK m=true):Cz (pn m++r)=(m,r):=by
 simp only[aK,Bool.and_eq_true,decide_eq_true_eq] at h;obtain⟨⟨⟨e,c⟩,b⟩,a⟩:=h;have d:=de.1 e;have f:=de.1 c;simp only[Cz,pn,List.cons_append,List.nil_append,List.append_assoc,iB,mX _ _ b,Bl _ _ a,ca d.1 ω,ca (show 0<=m.seq by omega) ω]
def Bi(l:List Msg)(r:List UInt8)(h:l.all aK=true):jD l.length (ef l++r)=(l,r):=by
 induction l with
 |nil=>rfl
 | cons m l a =>
   simp only[List.all_cons,Bool.and_eq_true] at h;have e:ef (m::l)++r=pn m++(ef l++r):=by simp[ef]
   rw[e];simp only[List.length_cons,jD,Dt m _ h.1,a h.2]
def xD(f:Frame)(r:List UInt8)(h:dg f=true):bO (gT f++r)=(f,r):=by
 simp only[dg,dk,bS,Bool.and_eq_true] at h;obtain⟨⟨⟨⟨⟨⟨⟨m,d⟩,g⟩,i⟩,⟨⟨b,a⟩,c⟩⟩,k⟩,l⟩,j⟩:=h;rw[de] at m d g i b a c;simp only[cd,Bool.and_eq_true,decide_eq_true_eq] at j;have e:(UInt8.ofNat f.d.length).toNat=f.d.length:=by simp;omega
 simp only[bO,gT,List.cons_append,List.nil_append,List.append_assoc,iB,gi _ _ (show f.h.toNat<4294967296 by omega),gi _ _ (show f.a.toNat<4294967296 by omega),
  gi _ _ (show f.e.toNat<4294967296 by omega),mX _ _ k,mX _ _ l,e,Int.toNat_natCast,Bi _ _ j.2,
  ca (show 0<=f.c by omega) ω,ca d.1 ω,ca g.1 ω,ca i.1 ω]
 rw[Int.toNat_of_nonneg b.1,Int.toNat_of_nonneg a.1,Int.toNat_of_nonneg c.1]
def rB(f:Frame)(h:dg f=true):(bO (im f)).1=f:=by
 rw[im,xD f _ h]
def bM(s:List UInt8):Bool:=dg (bO s).1 && decide (im (bO s).1=s)
def Ia(g:x<4294967296)(f:y<4294967296)(h:Crc.sh x=Crc.sh y):x=y:=by
 have e:∀j,(Crc.sh x).testBit j=(Crc.sh y).testBit j:=fun j=>by rw[h]
 have b:∀j,32<=j->x.testBit j=false:=fun j a=>Nat.testBit_lt_two_pow (Nat.lt_of_lt_of_le g (Nat.pow_le_pow_right (n:=2) ω a));have c:∀j,32<=j->y.testBit j=false:=fun j a=>Nat.testBit_lt_two_pow (Nat.lt_of_lt_of_le f (Nat.pow_le_pow_right (n:=2) ω a));have d:x.testBit 0=y.testBit 0:=by
  have:=e 31;rw[Crc.eH,Crc.eH,b 32 ω,c 32 ω] at this;have p:0xEDB88320.testBit 31=true:=θ;rw[p] at this;simpa using this
 apply Nat.eq_of_testBit_eq;intro j;cases j with
 |zero=>exact d
 | succ j =>
   have:=e j;rw[Crc.eH,Crc.eH,d] at this;grind
def zS(t:Nat)(b:x<4294967296)(a:y<4294967296)(h:Crc.uX t x=Crc.uX t y):x=y:=by
 induction t with
 |zero=>exact h
 |succ t c=>exact c (Ia (Crc.la t x b) (Crc.la t y a) h)
def kZ{b:Nat}(h:x ^^^ b=y ^^^ b):x=y:=by
 have:(x ^^^ b) ^^^ b=(y ^^^ b) ^^^ b:=by rw[h]
 grind
def Ds(l:List UInt8):∀{x y:Nat},x<4294967296->y<4294967296->
 l.foldl (fun w b=>Crc.uX 8 (w ^^^ b.toNat)) x=l.foldl (fun w b=>Crc.uX 8 (w ^^^ b.toNat)) y->x=y:=by
 induction l with
 |nil=>simp
 | cons b l f =>
   intro x y e d h;have c:x ^^^ b.toNat<4294967296:=Nat.xor_lt_two_pow (n:=32) e (by have:=b.toNat_lt;omega);have a:y ^^^ b.toNat<4294967296:=Nat.xor_lt_two_pow (n:=32) d (by have:=b.toNat_lt;omega);exact kZ (zS 8 c a (f (Crc.la 8 _ c) (Crc.la 8 _ a) h))
def FD(p q:List UInt8)(b c:UInt8)(h:Crc.xG (p++b::q)=Crc.xG (p++c::q)):b=c:=by
 simp only[Crc.xG,List.foldl_append,List.foldl_cons] at h;have a:p.foldl (fun w b=>Crc.uX 8 _) _<4294967296:=Crc.Dv p;generalize p.foldl (fun w b=>Crc.uX 8 _) _=w at h a;have e:w ^^^ b.toNat<4294967296:=Nat.xor_lt_two_pow (n:=32) a (by have:=b.toNat_lt;omega);have d:w ^^^ c.toNat<4294967296:=Nat.xor_lt_two_pow (n:=32) a (by have:=c.toNat_lt;omega);have:=zS 8 e d (Ds q (Crc.la 8 _ e) (Crc.la 8 _ d) h);rw[Nat.xor_comm w,Nat.xor_comm w] at this;exact UInt8.toNat_inj.1 (kZ this)
def FE(p q:List UInt8)(b c:UInt8)(h:Crc.zU (p++b::q)=Crc.zU (p++c::q)):b=c:=
 FD p q b c (kZ h)
def br(n:Nat):(cj n).length=4:=rfl
def Du(A B:List UInt8)(p q:List UInt8)(b c:UInt8)(g:A++cj (Crc.zU A)=p++b::q)(f:B++cj (Crc.zU B)=p++c::q):b=c:=by
 have j:A.length=B.length:=by
  have d:=congrArg List.length g;have a:=congrArg List.length f;simp[br] at d a;omega
 by_cases u:p.length<A.length
 ·
  have i:A=p++b::q.take (A.length - p.length - 1):=by
   have h:=congrArg (List.take A.length) g;rw[List.take_left] at h;rw[h,List.take_append,List.take_of_length_le ω,List.take_cons ω];simp
  have k:B=p++c::q.take (A.length - p.length - 1):=by
   have h:=congrArg (List.take B.length) f;rw[List.take_left] at h;rw[h,List.take_append,List.take_of_length_le ω,List.take_cons ω];simp[j]
  have o:cj (Crc.zU A)=cj (Crc.zU B):=by
   have d:=congrArg (List.drop A.length) g;have a:=congrArg (List.drop B.length) f;rw[List.drop_left] at d a;rw[d,a,j,List.drop_append,List.drop_append,List.drop_of_length_le ω];have e:B.length - p.length=(B.length - p.length - 1)+1:=ω;rw[e];rfl
  have l:∀n m:Nat,n<4294967296->m<4294967296->cj n=cj m->n=m:=by
   intro n m s t h;have d:=gi n [] s;have a:=gi m [] t;have:m=n:=(by grind);omega
  have:=l _ _ (Crc.sZ A) (Crc.sZ B) o;rw[i,k] at this;exact FE _ _ _ _ this
 ·
  have r:A=B:=by
   have d:=congrArg (List.take A.length) g;have a:=congrArg (List.take B.length) f;rw[List.take_left] at d a;rw[d,a,j,List.take_append_of_le_length ω,List.take_append_of_le_length ω]
  simp_all
def Ib(f:Frame)(p q:List UInt8)(b c:UInt8)(d:im f=p++b::q)(a:c≠b):bM (p++c::q)=false:=by
 cases h:bM _ with
 |false=>rfl
 | true =>
   simp only[bM,Bool.and_eq_true,decide_eq_true_eq] at h;exact absurd (Du _ _ _ _ _ _ h.2 d) a
end
end Go.Proofs.YtoklolfaemhfnaaGreatDoor.Codec
section
namespace Go.Proofs.YtoklolfaemhfnaaGreatDoor
structure Ev where
 b:Int
 a:Int
 d:Int
 seq:Int
 c:Int
 e:ByteArray
namespace Mo
open Codec (Msg Frame)
def gv(l:List Msg):Prop:=l.Pairwise fun x y=>¬(x.a=y.a/\x.seq=y.seq)
end Mo
end Go.Proofs.YtoklolfaemhfnaaGreatDoor
end
namespace Go.Proofs.YtoklolfaemhfnaaGreatDoor.Mo
section
open Codec (Msg Frame)
variable {n j k q:Nat}{G:List Msg}{f:Frame}{m:Msg}

variable {l FL FL':List Frame}{outs:Nat->List Frame}{row:List Int}
def mh:∀(k:Nat) (l:List Nat),l.Nodup->(∀x∈l,x<k)->l.length<=k
 | 0, l, _, h => by
   cases l with
   |nil=>simp
   |cons x l=>exact absurd (h x ς) ω
 | k + 1, l, a, h => by
   by_cases d:k∈l
   ·have c:=mh k _ (a.erase k) fun x b=>by
     grind
    grind
   ·have:=mh k l a fun x b=>by
     grind
    omega
end
end Go.Proofs.YtoklolfaemhfnaaGreatDoor.Mo
section
namespace Go.Proofs.YtoklolfaemhfnaaGreatDoor.Md
open Codec (Msg Frame)
structure Vote where
 b:Int
 m:Int
 a:List Int
structure Bal where
 g:Int
 e:Bool
 out:Int
 a:Int
 c:Int
 d:Int
 i:List (List Int × Vote)
structure Lft where
 m:Int
 a:List Int
 b:List Msg
structure PS where
 c:Nat
 n:Nat
 r:Nat
 f:Bool
 out:Bool
 h:Bool
 b:Int
 m:Int
 k:Int
 g:Int
 a:Vote
 d:Option Bal
 q:List (List Int)
 o:List Msg
 i:List Lft
 j:List Ev
 e:List Frame
def aV(set:Int)(q:Nat):Bool:=decide (set / 2 ^ q % 2=1)
def cX(a b:Int):Int:=((a.toNat ^^^ (a.toNat &&& b.toNat):Nat):Int)
def fK(a b:Int):Int:=((a.toNat &&& b.toNat:Nat):Int)
def j9(a b:Int):Int:=((a.toNat ||| b.toNat:Nat):Int)
def aO(q:Nat):Int:=((2 ^ q:Nat):Int)
def iX(set:Int)(n:Nat):List Nat:=(List.range n).filter (aV set)
def ir(set:Int):Nat:=(iX set 6).length
def Ik(set:Int):Nat:=(iX set 6).headD 64
def eA(s q:Int)(m:Msg):Bool:=m.a == s && m.seq == q
def FP(mem:Int)(kn:List (List Int))(s:Nat)(q:Int):Bool:=(List.range kn.length).all fun i=>!(aV mem i && decide ((kn.getD i []).getD s 0<q))
def dB(a row:List Int):List Int:=(List.range a.length).map fun s=>max (a.getD s 0) (row.getD s 0)
def aR(cut:List Int)(m:Msg):Bool:=decide (m.seq<=cut.getD m.a.toNat 0)
def Hk(row time:List Int)(s:Nat):Bool:=(List.range row.length).all fun q=>decide (q=s) || decide (time.getD q 0<=row.getD q 0)
def jl(a b:Msg):Bool:=decide (a.a<b.a) || (decide (a.a=b.a) && decide (a.seq<=b.seq))
def Ke(m:Msg):List Msg->List Msg
 |[]=>[m]
 |x::l=>if jl m x then m::x::l else x::Ke m l
def z7(l:List Msg):List Msg:=l.foldr Ke []
namespace PS
def Ml(S:PS):List Int:=S.q.getD S.c []
def MC(S:PS):Int:=if S.f then 6 else if S.out then 7 else 0
def Nh(S:PS)(m:Msg):Bool:=FP S.m S.q m.a.toNat m.seq
def M1(S:PS):PS:={ S with o:=S.o.filter fun m=>!S.Nh m }
def My(S:PS)(q:Nat)(row:List Int):PS:=M1 { S with q:=S.q.set q (dB (S.q.getD q []) row) }
def MX(S:PS)(m:Msg):PS:=if S.o.any (eA m.a m.seq) || S.Nh m || !aV S.m m.a.toNat then S else { S with o:=S.o++[m] }
def Mc(S:PS)(l:List Msg):PS:=l.foldl MX S
def Mp(S:PS):List Msg:=z7 S.o
def Mm(S:PS)(cut:List Int):List Msg:=S.Mp.filter (aR cut)
def Ng(S:PS)(e:Ev):PS:={ S with j:=S.j++[e] }
def Ms(S:PS)(m:Msg)(kind:Int):PS:=Ng { S with q:=S.q.set S.c (S.Ml.set m.a.toNat m.seq) } ⟨kind,S.b,m.a,m.seq,0,m.b⟩
def M9(S:PS)(cut:List Int)(q:Nat):Option Msg:=(S.o.find? (eA q (S.Ml.getD q 0+1))).filter fun m=>aR cut m && Hk S.Ml m.c q
def Mh(S:PS)(cut:List Int):Option Msg:=(List.range S.n).findSome? (S.M9 cut)
def Mt:Nat->PS->List Int->PS
 |0,S,_=>S
 | k + 1, S, cut => match S.Mh cut with
   |none=>S
   |some m=>Mt k (S.Ms m 2).M1 cut
def Mb(S:PS)(cut:List Int):PS:=Mt 121 S cut
def MG(S:PS):PS:=S.Mb (List.replicate S.n 20)
def MZ(S:PS)(f:Frame):PS:=if Codec.dg { f with f:=S.c } then { S with e:=S.e++[{ f with f:=S.c }] } else S
def L8(S:PS):List Nat:=iX (cX S.m (aO S.c)) S.n
def MN(S:PS)(q:Nat)(m:Msg):PS:=S.MZ ⟨1,0,q,0,S.b,0,0,S.Ml,[],[m]⟩
def gossip(S:PS)(q:Nat):PS:=S.MZ ⟨2,0,q,0,S.b,S.g,0,S.Ml,[],[]⟩
def Nl(S:PS)(q:Nat)(m:Msg):Bool:=decide ((S.q.getD q []).getD m.a.toNat 0<m.seq)
def Mz(S:PS)(q:Nat):PS:=S.Mp.foldl (fun T m=>if S.Nl q m then T.MN q m else T) S
def suspect(S:PS)(set:Int):PS:={ S with k:=j9 S.k (cX (fK set S.m) (aO S.c)) }
def MY(S:PS)(b:Int):Bool:=S.d.any fun l=>l.g == b
def MH(S:PS)(b:Int):PS:={ S with g:=b,d:=if S.MY b then S.d else none }
def Mx(S:PS)(b:Int):PS:={ S.MH b with h:=true }
def Nj(S:PS)(set:Int):Bool:=decide (ir S.m<2 * ir set)
def Na(S:PS):PS:=Ng { S with out:=true } ⟨4,S.b,0,0,0,⟨#[]⟩⟩
def enter(S:PS)(m:Int):PS:=
 Ng { S with b:=S.b+1,m:=m,k:=fK S.k m,h:=false,g:=0,a:=⟨0,0,[]⟩,d:=none,q:=S.q.map fun r=>List.replicate r.length 0,o:=[] } ⟨3,S.b+1,0,0,m,⟨#[]⟩⟩
def M6(S:PS)(m:Int)(cut:List Int):PS:={ S with i:=S.i++[⟨m,cut,S.Mm cut⟩] }
def install(S:PS)(m:Int)(cut:List Int):PS:=if aV m S.c then ((S.Mb cut).M6 m cut).enter m else ((S.Mb cut).M6 m cut).Na
def ME(S:PS)(q:Nat)(view:Int)(e:Lft):PS:=S.MZ ⟨7,0,q,e.m,view,0,0,[],e.a,e.b⟩
end PS
def Bal.h(b:Bal):Vote:=b.i.foldl (fun v a=>if v.b<a.2.b then a.2 else v) ⟨0,0,[]⟩
def Bal.j(b:Bal):List Int:=b.i.foldl (fun c a=>dB c a.1) (b.i.headD ([],⟨0,0,[]⟩)).1
def Bal.b(b:Bal):Vote:=if b.h.b=0 then ⟨b.g,b.a,b.j⟩ else { b.h with b:=b.g }
def Bal.f(b:Bal)(q:Nat)(a:List Int × Vote):Bal:={ b with c:=j9 b.c (aO q),i:=b.i++[a] }
namespace PS
def Mi(S:PS)(b:Bal):PS:=(iX (cX b.a b.c) S.n).foldl (fun T (q:Nat)=>T.MZ ⟨3,0,q,b.out,T.b,b.g,0,[],[],[]⟩) S
def Mj(S:PS)(b:Bal):PS:=(iX (cX b.a b.d) S.n).foldl (fun T (q:Nat)=>T.MZ ⟨5,0,q,T.a.m,T.b,b.g,0,[],T.a.a,S.Mm S.a.a⟩) S
def MF(S:PS):PS:=S.L8.foldl (fun T q=>T.ME q T.b ⟨S.a.m,S.a.a,S.Mm S.a.a⟩) S
def installIf(S:PS)(b:Bal):PS:=if S.Nj b.d then S.MF.install S.a.m S.a.a else S
def MA(S:PS)(b:Bal):PS:=
 if b.c=b.a && S.Nj b.c then
  let c:={ b with e:=false,d:=aO S.c }
  ({ S with d:=some c,a:=b.b }.Mj c).installIf c
 else S
def M5(S:PS):PS:=
 let T:=S.Mx ((S.g / 8+1) * 8+S.c)
 let b:Bal:=Bal.f ⟨T.g,true,T.k,cX T.m T.k,0,0,[]⟩ S.c (T.Ml,T.a)
 ({ T with d:=some b }.Mi b).MA b
def Mr(S:PS)(b:Bal):PS:=if b.e then S.Mi b else S.Mj b
def M4(S:PS):Bool:=decide (S.k≠0) && decide (Ik (cX S.m S.k)=S.c)
def Nb(S:PS):Bool:=S.d.all fun b=>decide (b.out≠S.k)
def Me(S:PS):PS:=if S.M4 && S.Nb && decide (S.g<2147483640) then S.M5 else match S.d with
 |some b=>S.Mr b
 |none=>S
def MR(S:PS)(f:Frame):PS:=
 if f.a<S.g then S else
  let T:=(S.Mx f.a).suspect f.b
  T.MZ ⟨4,0,f.f,T.a.m,T.b,f.a,T.a.b,T.Ml,T.a.a,T.Mp⟩
def Mv(S:PS)(f:Frame):PS:=match S.d with
 |none=>S
 | some b => if b.g = f.a && b.e && aV (cX b.a b.c) f.f.toNat then
  let c:=b.f f.f.toNat (f.g,⟨f.e,f.b,f.i⟩)
  { (S.My f.f.toNat f.g).Mc f.d with d:=some c }.MA c
   else S
def MK(S:PS)(f:Frame):PS:=
 if f.a<S.g then S else
  ({ S.Mx f.a with a:=⟨f.a,f.b,f.i⟩ }.Mc f.d).MZ ⟨6,0,f.f,0,S.b,f.a,0,[],[],[]⟩
def Mk(S:PS)(f:Frame):PS:=match S.d with
 |none=>S
 | some b => if b.g = f.a && !b.e && aV b.a f.f.toNat then
  let c:={ b with d:=j9 b.d (aO f.f.toNat) }
  { S with d:=some c }.installIf c
   else S
def M3(S:PS)(f:Frame):PS:=(S.Mc f.d).install f.b f.i
def MQ(S:PS)(f:Frame):PS:=
 let T:=(S.My f.f.toNat f.g).MX (f.d.headD ⟨0,0,[],⟨#[]⟩⟩)
 if T.h then T else T.MG
def ML(S:PS)(f:Frame):PS:=
 let T:=S.My f.f.toNat f.g
 if T.g<f.a then T.MH f.a else T
def L9(S:PS)(f:Frame):PS:=
 if f.c=1 then S.MQ f else if f.c=2 then S.ML f else if f.c=3 then S.MR f else if f.c=4 then S.Mv f else if f.c=5 then S.MK f else if f.c=6 then S.Mk f else if f.c=7 then S.M3 f else S
def MM(S:PS)(f:Frame):PS:=if f.c=7 then S else S.ME f.f.toNat f.h (S.i.getD f.h.toNat ⟨0,[],[]⟩)
def MW(S:PS)(f:Frame):PS:=if S.b<f.h then S else if f.h<S.b then S.MM f else if aV S.m f.f.toNat then S.L9 f else S
end PS
def dp(l:List Int)(n:Nat):Bool:=l.length == n || l.length == 0
def dr(n:Nat)(m:Msg):Bool:=decide (m.a<n) && m.c.length == n && m.c.getD m.a.toNat 0 == m.seq
def cH(f:Frame)(n:Nat):Bool:=
 if f.c=1 then f.g.length == n && f.d.length == 1 else if f.c=2 then f.g.length == n else if f.c=3 || f.c=6 then f.a != 0
 else if f.c=4 then f.a != 0 && f.g.length == n && (f.i.length == n || f.e == 0) else if f.c=5 then f.a != 0 && f.i.length == n else if f.c=7 then f.i.length == n else false
def na(f:Frame)(p n:Nat):Bool:=
 f.j == p && f.f != p && decide (f.f<n) && cX f.b (2 ^ n - 1) == 0 && dp f.g n && dp f.i n && f.d.all (dr n) && cH f n
namespace PS
def Mn(S:PS)(s:List UInt8):PS:=if S.MC=0 && Codec.bM s && na (Codec.bO s).1 S.c S.n then S.MW (Codec.bO s).1 else S
def tick(S:PS):PS:=if S.MC=0 then S.Me.L8.foldl (fun T q=>if T.h then T.gossip q else (T.gossip q).Mz q) S.Me else S
def Nc(S:PS)(l:List (List UInt8)):PS:=(l.foldl Mn S).tick
def Mf(S:PS)(t:ByteArray):Int:=
 if S.MC≠0 then S.MC else if 16<t.size then 2 else if S.h then 8 else if 20<=S.Ml.getD S.c 0 then 9 else if S.r<=(S.o.filter fun m=>m.a == (S.c:Int)).length then 10 else 0
def Ma(S:PS)(t:ByteArray):Msg:=⟨S.c,S.Ml.getD S.c 0+1,S.Ml.set S.c (S.Ml.getD S.c 0+1),t⟩
def put(l:List Msg)(m:Msg):List Msg:=if l.any (eA m.a m.seq) then l.map fun x=>if eA m.a m.seq x then m else x else l++[m]
def MV(S:PS)(m:Msg):PS:=let T:=S.Ms m 1;({ T with o:=put T.o m }).M1
def cast(S:PS)(t:ByteArray):PS:=if S.Mf t=0 then (S.MV (S.Ma t)).L8.foldl (fun T q=>T.MN q (S.Ma t)) (S.MV (S.Ma t)) else S
def Mu(S:PS)(q:Nat):PS:=if q≠S.c/\S.MC=0 then S.suspect (aO q) else S
def crash(S:PS):PS:={ S with f:=true }
def Ni(num n win:Nat):PS:=⟨num,n,win,false,false,false,0,2 ^ n - 1,0,0,⟨0,0,[]⟩,none,List.replicate n (List.replicate n 0),[],[],[],[]⟩
end PS
end Go.Proofs.YtoklolfaemhfnaaGreatDoor.Md
end
namespace Go.Proofs.YtoklolfaemhfnaaGreatDoor.Md
section
open Codec (Msg Frame)
variable {S T:PS}{k j:Nat}
structure MsgW (n:Nat) (m:Msg):Prop where
 s:∃s:Nat,s<n/\m.a=s
 t:m.c.length=n
 b:0<=m.seq
 a:m.seq<=20
def th(n:Nat)(r:List Int):Prop:=r.length=n/\∀x∈r,0<=x/\x<=20
def bj(s:Int):Prop:=0<=s/\s<64
def nD(b:Int):Prop:=0<=b/\b<2147483648
def fI(row:List Int):Nat:=(row.map fun x=>(20 - x).toNat).sum
structure lh (n:Nat) (v:Vote) (B:Bal):Prop where
 f:B.i≠[]
 c:∀a∈B.i,a.1.length=n/\0<=a.2.b/\(a.2.b≠0->a.2.a.length=n)/\bj a.2.m
 cut:B.e=false->v.a.length=n
 num:nD B.g
 out:bj B.out
 asked:bj B.a
 answ:bj B.c
 acc:bj B.d
 e:B.i.length<=ir B.c
def vh:Bool->Nat
 |true=>0
 |false=>1
structure Wf (S:PS):Prop where
 c:S.n<=6
 num:S.c<S.n
 a:S.q.length=S.n
 kn:∀r∈S.q,th S.n r
 ms:∀m∈S.o,MsgW S.n m
 view:0<=S.b/\S.b<=2147483648
 mem:bj S.m
 sus:bj S.k
 h:fK S.k S.m=S.k/\aV S.k S.c=false
 prom:nD S.g
 vote:0<=S.a.b/\(S.a.b≠0->S.a.a.length=S.n)/\bj S.a.m
 lead:∀B,S.d=some B->lh S.n S.a B
 left:S.b.toNat<=S.i.length/\(S.out=false->S.i.length=S.b.toNat)
 t:S.j.length+fI S.Ml+vh S.out<=122 * (S.b.toNat+1)
def Wf.n0(h:Wf S):0<S.n:=Nat.lt_of_le_of_lt (Nat.zero_le _) h.num
def Wf.g(h:Wf S):th S.n S.Ml:=by
 have:S.c<S.q.length:=by rw[h.a];exact h.num
 have e:S.Ml=S.q[S.c]:=by simp[PS.Ml,this]
 rw[e];exact h.kn _ ς
def th.at{n:Nat}{r:List Int}(h:th n r){q:Nat}(a:q<n):0<=r.getD q 0/\r.getD q 0<=20:=by
 have:q<r.length:=by rw[h.1];exact a
 rw[show r.getD q 0=r[q] by grind];exact h.2 _ ς
def Wf.a7(h:Wf S):S.j.length<=300000000000:=by
 have b:=h.t;have a:=h.view;omega
structure Lq (S:PS):Prop where
 c:S.n<=6
 b:0<S.n
 a:S.q.length=S.n
 kn:∀r∈S.q,th S.n r
 view:0<=S.b/\S.b<=2147483648
 sus:bj S.k
 evs:S.j.length<=300000000000
def Wf.c0(h:Wf S):Lq S:=⟨h.c,h.n0,h.a,h.kn,h.view,h.sus,h.a7⟩
structure Sends (S T:PS) (k:Nat):Prop where
 e:T={ S with e:=T.e }
 b:T.e.length<=S.e.length+k
def Sends.f(S:PS):Sends S S 0:=⟨rfl,Nat.le_refl _⟩
def Sends.g{U:PS}(h:Sends S T j)(g:Sends T U k):Sends S U (j+k):=by
 refine⟨?_,by have:=h.b;have:=g.b;omega⟩;have e:=g.e;rw[h.e] at e;exact e
def Sends.c(h:Sends S T j)(a:j<=k):Sends S T k:=⟨h.e,Nat.le_trans h.b ω⟩
def Sends.d(h:Sends S T k)(a:Wf S):Wf T:=by
 rw[h.e];exact⟨a.c,a.num,a.a,a.kn,a.ms,a.view,a.mem,a.sus,a.h,a.prom,a.vote,a.lead,a.left,a.t⟩
def ak(S:PS)(f:Frame):Sends S (S.MZ f) 1:=by
 unfold PS.MZ;split
 ·exact⟨rfl,ς⟩
 ·exact⟨rfl,ω⟩
def bK{c:Type}(g:PS->c->PS)(k:Nat)(b:∀T a,Sends T (g T a) k):∀(l:List c) (S:PS),Sends S (l.foldl g S) (l.length * k)
 |[],S=>by simpa using Sends.f S
 | a :: l, S => by
   have:=(b S a).g (bK g k b l _);rw[List.length_cons,Nat.add_mul,Nat.one_mul,Nat.add_comm _];exact this
end
section
open Codec (Msg Frame)
variable {S:PS}{r:List Int}{q n:Nat}{m:Msg}
def Wf.j(h:Wf S):Wf S.M1:=⟨h.c,h.num,h.a,h.kn,fun m a=>h.ms m (List.mem_filter.1 a).1,h.view,h.mem,h.sus,h.h,h.prom,h.vote,h.lead,h.left,h.t⟩
def iW(a r:List Int):(dB a r).length=a.length:=by simp[dB]
def th.a{a:List Int}(h:th n a)(f:∀x∈r,0<=x/\x<=20):th n (dB a r):=by
 refine⟨by rw[iW];exact h.1,fun x c=>?_⟩;obtain⟨s,b,rfl⟩:=List.mem_map.1 c;have b:=List.mem_range.1 b;have g:=h.2 a[s] ς;have e:0<=r.getD s 0/\r.getD s 0<=20:=by
  by_cases d:s<r.length
  ·simp_all
  ·grind
 grind
def zX{b:Type}{l:List b}{i:Nat}{a x:b}(h:x∈l.set i a):x=a\/x∈l:=by
 grind
def Wf.a6(h:Wf S)(b:th S.n r)(c:q=S.c->S.j.length+fI r+vh S.out<=122 * (S.b.toNat+1)):Wf { S with q:=S.q.set q r }:=by
 refine⟨h.c,h.num,by simpa using h.a,fun x a=>(zX a).elim (fun e=>e▸b) (h.kn x),h.ms,h.view,h.mem,h.sus,h.h,h.prom,h.vote,h.lead,h.left,?_⟩;show S.j.length+fI ((S.q.set q r).getD _ [])+vh _<=_;by_cases e:q=S.c
 ·rw[show (S.q.set q r).getD _ []=r by simp[e,h.a,h.num]];grind
 ·rw[show (S.q.set q r).getD _ []=S.Ml by simp[PS.Ml,List.getElem?_set_ne e]];exact h.t
def zZ:∀{r r':List Int},r.length=r'.length->(∀(i:Nat),r.getD i 0<=r'.getD i 0)->fI r'<=fI r
 |[],[],_,_=>Nat.le_refl _
 | x :: r, y :: r', c, h => by
   have a:=zZ (r:=r) (r':=r') ν fun i=>by simpa using h (i+1)
   have b:x<=y:=by simpa using h 0
   simp only[fI,List.map_cons,List.sum_cons] at a ⊢;omega
def py(h:th n r):fI r<=20 * n:=by
 obtain⟨d,a⟩:=h;subst d;induction r with
 |nil=>simp[fI]
 | cons x r c =>
   have e:=a x ς;have:=c fun y b=>a y (List.mem_cons_of_mem _ b);simp only[fI,List.map_cons,List.sum_cons,List.length_cons] at this ⊢;omega
def Wf.i(h:Wf S)(c:q<S.n)(f:∀x∈r,0<=x/\x<=20):Wf (S.My q r):=by
 have g:q<S.q.length:=by rw[h.a];exact c
 have e:S.q.getD q []=S.q[q]:=by simp[g]
 have a:th S.n (S.q.getD q []):=by rw[e];exact h.kn _ ς
 refine(h.a6 (a.a f) fun d=>?_).j;have:fI (dB (S.q.getD q []) r)<=fI S.Ml:=by
  rw[d];refine zZ (iW _ _).symm fun i=>?_;show S.Ml.getD i 0<=(dB S.Ml r).getD i 0;by_cases b:i<S.Ml.length
  ·simp only[dB,List.getD_eq_getElem?_getD,List.getElem?_map,List.getElem?_range b,Option.map_some,Option.getD_some];omega
  ·rw[show S.Ml.getD i 0=0 by simp[b],show (dB _ r).getD i 0=0 by simp[dB,b]];omega
 have:=h.t;omega
def Wf.x(h:Wf S)(b:MsgW S.n m):Wf (S.MX m):=by
 unfold PS.MX;split
 ·exact h
 ·refine⟨h.c,h.num,h.a,h.kn,fun x a=>?_,h.view,h.mem,h.sus,h.h,h.prom,h.vote,h.lead,h.left,h.t⟩;rcases List.mem_append.1 a with a|a
  ·exact h.ms x a
  ·rw[List.mem_singleton] at a;subst a;exact b
def DD(m:Msg):(S.MX m).n=S.n:=by unfold PS.MX;grind
def Wf.f(h:Wf S){l:List Msg}(a:∀m∈l,MsgW S.n m):Wf (S.Mc l):=by
 induction l generalizing S with
 |nil=>exact h
 |cons m l b=>exact b (h.x (a m ς)) fun x c=>by rw[DD];exact a x ν
def dy{a:List Int}(h:S.Mh a=some m):m∈S.o/\∃q,q<S.n/\m.a=(q:Int)/\m.seq=S.Ml.getD q 0+1/\aR a m=true/\Hk S.Ml m.c q=true:=by
 obtain⟨q,f,e⟩:=List.exists_of_findSome?_eq_some h;obtain⟨d,c⟩:=Option.filter_eq_some_iff.1 e;have b:=List.find?_some d;simp only[eA,Bool.and_eq_true,beq_iff_eq] at b c;grind
def ve:∀{r:List Int}{s:Nat}{x:Int},r[s]?=some x->x+1<=20->fI (r.set s (x+1))+1=fI r
 | y :: r, 0, x, h, a => by
   simp only[List.getElem?_cons_zero,Option.some.injEq] at h;simp only[fI,List.set_cons_zero,List.map_cons,List.sum_cons];omega
 | y :: r, s + 1, x, h, a => by
   have:=ve (r:=r) (s:=s) ν a;simp only[fI,List.set_cons_succ,List.map_cons,List.sum_cons] at this ⊢;omega
def Wf.k(h:Wf S)(f:q<S.n)(j:m.a=(q:Int))(g:m.seq=S.Ml.getD q 0+1)(k:m.seq<=20)(a:Int):Wf (S.Ms m a)/\fI (S.Ms m a).Ml+1=fI S.Ml:=by
 have d:=h.g;have p:q<S.Ml.length:=by rw[d.1];exact f
 have s:=d.at f;have e:m.a.toNat=q:=by rw[j];rfl
 have l:=ve (r:=S.Ml) (s:=q) (x:=S.Ml.getD q 0) ν ω;have c:(S.Ms m a).Ml=S.Ml.set q (S.Ml.getD q 0+1):=by
  simp only[PS.Ms,PS.Ng,e,g];show (S.q.set _ _).getD _ []=_;simp[h.a,h.num]
 refine⟨?_,ν⟩;have b:=h.a6 (q:=S.c) (r:=S.Ml.set q (S.Ml.getD q 0+1)) ⟨by simpa using d.1,fun x i=>(zX i).elim (fun e=>by omega) (d.2 x)⟩ fun _=>by have:=h.t;omega
 have o:S.Ms m a=PS.Ng { S with q:=S.q.set S.c (S.Ml.set q (S.Ml.getD q 0+1)) } ⟨a,S.b,m.a,m.seq,0,m.b⟩:=by simp only[PS.Ms,e,g]
 rw[o] at c ⊢;refine⟨b.c,b.num,b.a,b.kn,b.ms,b.view,b.mem,b.sus,b.h,b.prom,b.vote,b.lead,b.left,?_⟩;rw[c];have:=h.t;simp only[PS.Ng,List.length_append,List.length_cons,List.length_nil] at this ⊢;omega
def kG:∀(k:Nat) (S:PS) (a:List Int),Wf S->Wf (PS.Mt k S a)
 |0,_,_,h=>h
 | k + 1, S, a, h => by
   rw[PS.Mt];split
   ·exact h
   ·rename_i m f
    obtain⟨b,q,c,e,d, -⟩:=dy f;exact kG k _ a (h.k c e d (h.ms m b).a 2).1.j
def Wf.d(h:Wf S)(a:List Int):Wf (S.Mb a):=kG 121 S a h
variable {a b:Msg}
def iC:jl a b=true↔a.a<b.a\/(a.a=b.a/\a.seq<=b.seq):=by simp[jl]
def u9(a b:Msg):jl a b=true\/jl b a=true:=by
 rw[iC,iC];omega
def va{c:Msg}(h:jl a b=true)(k:jl b c=true):jl a c=true:=by
 rw[iC] at *;omega
def pq(m:Msg):∀l,(Ke m l).Perm (m::l)
 |[]=>List.Perm.refl _
 | x :: l => by
   unfold Ke;split
   ·exact List.Perm.refl _
   ·exact((pq m l).cons x).trans (List.Perm.swap m x l)
def gu:∀l,(z7 l).Perm l
 |[]=>List.Perm.refl _
 |m::l=>(pq m _).trans ((gu l).cons m)
def pr:∀{l:List Msg},l.Pairwise (fun a b=>jl a b=true)->(Ke m l).Pairwise fun a b=>jl a b=true
 |[],_=>List.pairwise_singleton _ _
 | x :: l, h => by
   rw[List.pairwise_cons] at h;unfold Ke;split
   ·rename_i d
    refine List.pairwise_cons.2 ⟨fun y c=>?_,List.pairwise_cons.2 h⟩;rcases List.mem_cons.1 c with rfl|c
    ·exact d
    ·exact va d (h.1 y c)
   ·rename_i d
    refine List.pairwise_cons.2 ⟨fun y c=>?_,pr h.2⟩;rcases List.mem_cons.1 ((pq m l).mem_iff.1 c) with rfl|c
    ·exact(u9 x y).resolve_right d
    grind
def ma:∀l,(z7 l).Pairwise fun a b=>jl a b=true
 |[]=>List.Pairwise.nil
 |_::l=>pr (ma l)
def DI{l c:List Msg}(d:c.Perm l)(i:c.Pairwise fun a b=>jl a b=true)(h:∀a∈l,∀b∈l,a.a=b.a->a.seq=b.seq->a=b):c=z7 l:=by
 refine List.Perm.eq_of_pairwise (fun a b j g f e=>?_) i (ma l) (d.trans (gu l).symm);rw[iC] at f e;exact h a (d.mem_iff.1 j) b ((gu l).mem_iff.1 g) ω ω
def lq:m∈S.Mp↔m∈S.o:=(gu S.o).mem_iff
def ll:S.Mp.length=S.o.length:=(gu S.o).length_eq
def jK{c:List Int}(h:m∈S.Mm c):m∈S.o:=lq.1 (List.mem_filter.1 h).1
end
section
open Codec (Msg Frame)
variable {S T U:PS}{x y m:Int}{q:Nat}
def bj.a(h:bj x):∃a:Nat,x=a/\a<2 ^ 6:=by
 obtain⟨a,rfl⟩:=Int.eq_ofNat_of_zero_le h.1;exact⟨a,rfl,by have:=h.2;omega⟩
def bT(a q:Nat):aV (a:Int) q=a.testBit q:=by
 unfold aV;grind
def DF(a c:Nat):fK a c=((a &&& c:Nat):Int):=rfl
def z6(a c:Nat):j9 a c=((a ||| c:Nat):Int):=rfl
def DG(a c:Nat):cX a c=((a ^^^ (a &&& c):Nat):Int):=rfl
def bj.h{a:Nat}(h:a<2 ^ 6):bj (a:Int):=⟨ω,ω⟩
def bj.d(h:bj x):bj (fK x y):=by
 obtain⟨a,rfl,b⟩:=h.a;exact .h (Nat.lt_of_le_of_lt (Nat.and_le_left) b)
def bj.f(h:bj x)(k:bj y):bj (j9 x y):=by
 obtain⟨a,rfl,d⟩:=h.a;obtain⟨c,rfl,b⟩:=k.a;exact .h (Nat.or_lt_two_pow d b)
def bj.g(h:bj x):bj (cX x y):=by
 obtain⟨a,rfl,b⟩:=h.a;exact .h (Nat.xor_lt_two_pow b (Nat.lt_of_le_of_lt (Nat.and_le_left) b))
def bj.c(h:q<6):bj (aO q):=.h (Nat.pow_lt_pow_right ω h)
def gn(h:bj x)(k:bj y)(q:Nat):aV (fK x y) q=(aV x q && aV y q):=by
 obtain⟨a,rfl, -⟩:=h.a;obtain⟨c,rfl, -⟩:=k.a;rw[DF,bT,bT,bT,Nat.testBit_and]
def tj(h:bj x)(k:bj y)(q:Nat):aV (j9 x y) q=(aV x q || aV y q):=by
 obtain⟨a,rfl, -⟩:=h.a;obtain⟨c,rfl, -⟩:=k.a;rw[z6,bT,bT,bT,Nat.testBit_or]
def lX(h:bj x)(k:bj y)(q:Nat):aV (cX x y) q=(aV x q && !aV y q):=by
 obtain⟨a,rfl, -⟩:=h.a;obtain⟨c,rfl, -⟩:=k.a;rw[DG,bT,bT,bT,Nat.testBit_xor,Nat.testBit_and];grind
def u5(p q:Nat):aV (aO p) q=decide (p=q):=by
 unfold aO;rw[bT,Nat.testBit_two_pow]
def bj.e(h:bj x)(k:bj y)(e:∀q,aV x q=aV y q):x=y:=by
 obtain⟨a,rfl, -⟩:=h.a;obtain⟨c,rfl, -⟩:=k.a;congr 1;exact Nat.eq_of_testBit_eq fun q=>by rw[<-bT,<-bT];exact e q
def zW(h:bj x)(b:aV x q=true):q<6:=by
 obtain⟨a,rfl,d⟩:=h.a;rw[bT] at b;refine Nat.lt_of_not_le fun c=>?_;rw[Nat.testBit_lt_two_pow (Nat.lt_of_lt_of_le d (Nat.pow_le_pow_right ω c))] at b;cases b
def eX{n:Nat}:q∈iX x n↔q<n/\aV x q=true:=by simp[iX]
def DH(h:bj x){p:Nat}(b:aV x p=true)(a:aV x q=true)(f:p≠q):2<=ir x:=by
 unfold ir;have d:=eX.2 ⟨zW h b,b⟩;have c:=eX.2 ⟨zW h a,a⟩;match e:iX x 6 with
 |[]=>grind
 |[y]=>grind
 |_::_::_=>simp
def vg(h:q<6):ir (aO q)=1:=by
 match q,h with
 |0,_=>rfl
 |1,_=>rfl
 |2,_=>rfl
 |3,_=>rfl
 |4,_=>rfl
 |5,_=>rfl
def dh(S T:PS):Prop:=T={ S with q:=T.q,o:=T.o,j:=T.j,e:=T.e }
def dh.e(S:PS):dh S S:=rfl
def dh.b(h:dh S T)(k:dh T U):dh S U:=by
 unfold dh at *;grind
def Sends.a{k:Nat}(h:Sends S T k):dh S T:=by
 have e:=h.e;unfold dh;rw[e]
def dq(S:PS)(q:Nat)(r:List Int):dh S (S.My q r):=rfl
def nc(S:PS)(m:Msg):dh S (S.MX m):=by unfold PS.MX;split <;> rfl
def bf(S:PS)(l:List Msg):dh S (S.Mc l):=by
 induction l generalizing S with
 |nil=>rfl
 |cons m l a=>exact(nc S m).b (a _)
def kH:∀(k:Nat) (S:PS) (a:List Int),dh S (PS.Mt k S a)
 |0,_,_=>rfl
 | k + 1, S, a => by
   rw[PS.Mt];split
   ·rfl
   ·exact dh.b (show dh S (S.Ms _ 2).M1 from rfl) (kH k _ a)
def eh(S:PS)(a:List Int):dh S (S.Mb a):=kH 121 S a
def dh.i(h:dh S T):T.c=S.c:=by rw[h]
def dh.n(h:dh S T):T.n=S.n:=by rw[h]
def dh.out(h:dh S T):T.out=S.out:=by rw[h]
def dh.a(h:dh S T):T.b=S.b:=by rw[h]
def dh.c(h:dh S T):T.a=S.a:=by rw[h]
def dh.f(h:dh S T):T.d=S.d:=by rw[h]
def dh.j(h:dh S T):T.m=S.m:=by rw[h]
def dh.h(h:dh S T):T.i=S.i:=by rw[h]
def dh.o(h:dh S T):T.k=S.k:=by rw[h]
def dh.l(h:dh S T):T.g=S.g:=by rw[h]
def dh.g(h:dh S T):T.h=S.h:=by rw[h]
def dh.d(h:dh S T):T.f=S.f:=by rw[h]
def Wf.suspect(h:Wf S){a:Int}(g:bj a):Wf (S.suspect a):=by
 have f:bj _:=.c (Nat.lt_of_lt_of_le h.num h.c);have d:bj (fK a S.m):=g.d;have c:bj (cX (fK a S.m) (aO S.c)):=d.g;have b:=h.sus.f c;refine⟨h.c,h.num,h.a,h.kn,h.ms,h.view,h.mem,b,⟨bj.e b.d b fun q=>?_,?_⟩,h.prom,h.vote,h.lead,h.left,h.t⟩
 ·show aV (fK (j9 _ _) S.m) q=aV (j9 _ _) q;have e:=congrArg (fun s=>aV s q) h.h.1;simp only[gn h.sus h.mem] at e;rw[gn b h.mem,tj h.sus c,lX d f,gn g h.mem,<-e];grind
 ·show aV (j9 _ _) S.c=false;rw[tj h.sus c,h.h.2,lX d f,u5];simp
def Wf.a0(h:Wf S){n:Int}(b:nD n):Wf (S.MH n):=by
 refine⟨h.c,h.num,h.a,h.kn,h.ms,h.view,h.mem,h.sus,h.h,b,h.vote,fun B a=>h.lead B ?_,h.left,h.t⟩;have a:(if S.MY n then S.d else none)=some B:=a;grind
def Wf.s(h:Wf S){n:Int}(a:nD n):Wf (S.Mx n):=by
 have k:=h.a0 a;exact⟨k.c,k.num,k.a,k.kn,k.ms,k.view,k.mem,k.sus,k.h,k.prom,k.vote,k.lead,k.left,k.t⟩
def rF(n:Nat):fI (List.replicate n 0)=20 * n:=by
 simp[fI,List.map_replicate,List.sum_replicate_nat];omega
def nD.a:nD 0:=⟨θ,θ⟩
def bj.b:bj 0:=⟨θ,θ⟩
def Wf.enter(h:Wf S)(n:S.out=false)(p:S.b<2147483648)(b:bj m)(a:List Int):Wf ((S.M6 m a).enter m):=by
 have i:=h.view.1;have e:(S.b+1).toNat=S.b.toNat+1:=ω;have k:((S.M6 m a).enter m).Ml=List.replicate S.Ml.length 0:=by
  have l:S.c<S.q.length:=by rw[h.a];exact h.num
  show (S.q.map _).getD S.c []=List.replicate (S.q.getD S.c []).length 0;simp[l]
 refine⟨h.c,h.num,by show (S.q.map _).length=_;rw[List.length_map];exact h.a,fun r f=>?_,fun x d=>(List.not_mem_nil d).elim,⟨by show 0<=S.b+1;omega,by show S.b+1<=_;omega⟩,b,h.sus.d,⟨bj.e h.sus.d.d h.sus.d fun q=>?_,?_⟩,nD.a,⟨Int.le_refl _,fun e=>(e rfl).elim,bj.b⟩,nofun,?_,?_⟩
 ·obtain⟨g,c,rfl⟩:=List.mem_map.1 f;exact⟨by rw[List.length_replicate];exact(h.kn g c).1,fun x d=>ν⟩
 ·show aV (fK (fK S.k m) m) q=aV (fK S.k m) q;rw[gn h.sus.d b,gn h.sus b];simp
 ·show aV (fK S.k m) S.c=false;rw[gn h.sus b,h.h.2,Bool.false_and]
 ·have:=h.left.2 n;show (S.b+1).toNat<=(S.i++[_]).length/\(_->(S.i++[_]).length=(S.b+1).toNat);grind
 ·rw[k];show (S.j++[_]).length+fI _+vh S.out<=122 * ((S.b+1).toNat+1);have s:=h.t;have j:=h.g.1;have o:=h.c;rw[rF,j,e];grind
def Wf.b0(h:Wf S)(c:S.out=false)(m:Int)(a:List Int):Wf ((S.M6 m a).Na):=by
 refine⟨h.c,h.num,h.a,h.kn,h.ms,h.view,h.mem,h.sus,h.h,h.prom,h.vote,h.lead,⟨?_,nofun⟩,?_⟩
 ·show S.b.toNat<=(S.i++[_]).length;have:=h.left.1;grind
 ·show (S.j++[_]).length+fI S.Ml+0<=122 * (S.b.toNat+1);have b:=h.t;rw[c] at b;simp only[List.length_append,List.length_cons,List.length_nil,vh] at b ⊢;omega
def Wf.install(h:Wf S)(c:S.out=false)(e:S.b<2147483648)(d:bj m)(a:List Int):Wf (S.install m a):=by
 have k:=h.d a;have b:=eh S a;unfold PS.install;split
 ·exact k.enter (b.out.trans c) (by rw[b.a];exact e) d a
 ·exact k.b0 (b.out.trans c) m a
def Wf.v(h:Wf S)(m:Int)(a:List Int):Lq (S.M6 m a):=⟨h.c,h.n0,h.a,h.kn,h.view,h.sus,h.a7⟩
end
section
open Codec (Msg Frame)
variable {S T U:PS}{B:Bal}{n:Nat}{v:Vote}{x:Int}{t:ByteArray}
section
def Wf.e(h:Wf S){L:Option Bal}(c:0<=v.b/\(v.b≠0->v.a.length=S.n)/\bj v.m)(a:∀B,L=some B->lh S.n v B):Wf { S with a:=v,d:=L }:=
 ⟨h.c,h.num,h.a,h.kn,h.ms,h.view,h.mem,h.sus,h.h,h.prom,c,a,h.left,h.t⟩
def bA(S:PS)(b:Bal):∃k,Sends S (S.Mi b) k:=⟨_,bK _ 1 (fun T _=>ak T _) _ S⟩
def bo(S:PS)(b:Bal):∃k,Sends S (S.Mj b) k:=⟨_,bK _ 1 (fun T _=>ak T _) _ S⟩
def df(S:PS):∃k,Sends S S.MF k:=⟨_,bK _ 1 (fun T _=>ak T _) _ S⟩
def Wf.installIf(h:Wf S)(b:S.out=false)(c:S.b<2147483648)(B:Bal):Wf (S.installIf B):=by
 unfold PS.installIf;split
 ·obtain⟨k,a⟩:=df S;exact(a.d h).install (a.a.out.trans b) (by rw[a.a.a];exact c) h.vote.2.2 _
 ·exact h
def xM(P:Vote->Prop)(b:P ⟨0,0,[]⟩)(h:∀a∈B.i,P a.2):P B.h:=by
 unfold Bal.h;generalize (⟨0,0,[]⟩:Vote)=v at b;revert h
 induction B.i generalizing v with
 |nil=>intro _;exact b
 | cons a l c =>
   intro h;rw[List.foldl_cons];refine c _ ?_ fun x d=>h x ν;split
   ·exact h a ς
   ·exact b
def lW(h:∀a∈B.i,a.1.length=n)(f:B.i≠[]):B.j.length=n:=by
 unfold Bal.j;have b:((B.i.headD ([],⟨0,0,[]⟩)).1).length=n:=by
  match e:B.i with
  |[]=>grind
  |a::l=>grind
 generalize (B.i.headD _).1=c at b;induction B.i generalizing c with
 |nil=>exact b
 |cons a l d=>exact d _ (by rw[iW];exact b)
def lh.d(h:lh n v B):0<=B.b.b/\B.b.a.length=n/\bj B.b.m:=by
 have d:=xM (fun v=>0<=v.b/\(v.b≠0->v.a.length=n)/\bj v.m) ⟨Int.le_refl _,fun e=>(e rfl).elim,bj.b⟩ fun a c=>(h.c a c).2;unfold Bal.b;split
 ·exact⟨h.num.1,lW (fun a c=>(h.c a c).1) h.f,h.asked⟩
 ·rename_i e
  exact⟨h.num.1,d.2.1 e,d.2.2⟩
def Wf.b5(h:Wf S):bj (aO S.c):=.c (Nat.lt_of_lt_of_le h.num h.c)
def Wf.a5(h:Wf S)(a:lh S.n S.a B):Wf { S with d:=some { B with e:=false,d:=aO S.c },a:=B.b }:=by
 have b:=a.d;refine h.e ⟨b.1,fun _=>b.2.1,b.2.2⟩ ?_;intro c e;cases e;exact⟨a.f,a.c,fun _=>b.2.1,a.num,a.out,a.asked,a.answ,h.b5,a.e⟩
def Wf.b4(h:Wf S)(c:S.out=false)(d:S.b<2147483648)(b:lh S.n S.a B):Wf (S.MA B):=by
 unfold PS.MA;split
 ·obtain⟨k,a⟩:=bo _ _;exact(a.d (h.a5 b)).installIf (a.a.out.trans c) (by rw[a.a.a];exact d) _
 ·exact h
def pB(q:Nat):j9 0 (aO q)=aO q:=by
 show j9 ((0:Nat)) ((2 ^ q:Nat))=_;rw[z6,Nat.zero_or];rfl
def FO{q:Nat}(h:Ik x=q)(a:q<6):aV x q=true:=by
 unfold Ik at h;match e:iX x 6 with
 |[]=>grind
 | y :: l =>
   rw[e] at h;subst h;exact(eX.1 (by grind:y∈iX x 6)).2
def Wf.b7(h:Wf S)(b:S.M4=true):(decide (aO S.c=cX S.m S.k) && S.Nj (aO S.c))=false:=by
 unfold PS.M4 at b;simp only[Bool.and_eq_true,decide_eq_true_eq] at b;obtain⟨i,j⟩:=b;have c:=Nat.lt_of_lt_of_le h.num h.c;have d:=FO j c;rw[lX h.mem h.sus,Bool.and_eq_true] at d;have:∃q,aV S.k q=true:=by
  refine Classical.byContradiction fun l=>i (bj.e h.sus bj.b fun q=>?_);have g:aV 0 q=false:=by rw[show 0=((0:Nat):Int) from rfl,bT,Nat.zero_testBit]
  rw[g];exact ν
 obtain⟨q,f⟩:=this;have a:aV S.m q=true:=by
  have e:=congrArg (fun s=>aV s q) h.h.1;simp only[gn h.sus h.mem,f,Bool.true_and] at e;exact e
 have k:S.c≠q:=fun e=>ν;have m:=DH h.mem d.1 a k;have:S.Nj (aO S.c)=false:=by
  unfold PS.Nj;rw[vg c];simp;omega
 grind
def PS.p(S:PS):Bal:=Bal.f ⟨(S.g / 8+1) * 8+S.c,true,S.k,cX S.m S.k,0,0,[]⟩ S.c (S.Ml,S.a)
def PS.l(S:PS):PS:={ S.Mx ((S.g / 8+1) * 8+S.c) with d:=some S.p }
def Wf.p(h:Wf S)(d:S.g<2147483640):nD ((S.g / 8+1) * 8+S.c):=by
 have c:=h.prom;have b:=h.num;have a:=h.c;unfold nD at *;omega
def Wf.b1(h:Wf S)(c:S.g<2147483640):lh S.n S.a S.p:=by
 refine⟨by simp[PS.p,Bal.f],fun a b=>?_,nofun,h.p c,h.sus,h.mem.g,bj.b.f h.b5,bj.b,?_⟩
 ·simp only[PS.p,Bal.f,List.nil_append,List.mem_singleton] at b;subst b;exact⟨h.g.1,h.vote⟩
 ·show 1<=ir (j9 0 _);rw[pB,vg (Nat.lt_of_lt_of_le h.num h.c)];omega
def Wf.y(h:Wf S)(a:S.g<2147483640):Wf S.l:=by
 have k:=h.s (h.p a);exact k.e h.vote fun B e=>by cases e;exact h.b1 a
def u2(h:Wf S)(c:S.M4=true):S.M5=S.l.Mi S.p:=by
 obtain⟨k,b⟩:=bA _ _;have e:S.M5=(S.l.Mi S.p).MA S.p:=rfl;rw[e];unfold PS.MA;rw[if_neg];have f:=h.b7 c;have d:(S.l.Mi S.p).Nj S.p.c=S.Nj (aO S.c):=by
  unfold PS.Nj;rw[b.a.j];have:S.p.c=aO _:=pB _;rw[this];rfl
 have a:S.p.c=aO _:=pB _;rw[d,show S.p.a=cX _ _ from rfl,a,f];nofun
def Wf.b8(h:Wf S)(b:S.M4=true)(c:S.g<2147483640):Wf S.M5:=by
 rw[u2 h b];obtain⟨k,a⟩:=bA _ _;exact a.d (h.y c)
def Wf.l(h:Wf S):Wf S.Me:=by
 unfold PS.Me;split
 ·rename_i e
  simp only[Bool.and_eq_true,decide_eq_true_eq] at e;exact h.b8 e.1.1 e.2
 ·split
  ·unfold PS.Mr;split
   ·obtain⟨k,a⟩:=bA S _;exact a.d h
   ·obtain⟨k,a⟩:=bo S _;exact a.d h
  ·exact h
structure FrW (n:Nat) (f:Frame):Prop where
 src:∃q:Nat,q<n/\f.f=q
 members:bj f.b
 view:0<=f.h/\f.h<2147483648
 ballot:nD f.a
 voted:0<=f.e
 row:∀x∈f.g,0<=x/\x<=20
 cut:∀x∈f.i,0<=x/\x<=20
 msgs:∀m∈f.d,MsgW n m
 d:f.d.length<=200
 c:cH f n=true
def LB{f:Frame}{p:Nat}(a:Codec.dg f=true)(c:na f p n=true):FrW n f:=by
 simp only[Codec.dg,Codec.dk,Codec.bS,Codec.aA,Codec.cd,Codec.aK,Bool.and_eq_true,Codec.de,List.all_eq_true,decide_eq_true_eq] at a;simp only[na,dr,Bool.and_eq_true,List.all_eq_true,decide_eq_true_eq,beq_iff_eq] at c;obtain⟨⟨⟨⟨⟨⟨⟨-,z⟩, -⟩,u⟩,⟨⟨w,y⟩,q⟩⟩, -,k⟩, -,j⟩,e,d⟩:=a;obtain⟨⟨⟨⟨⟨⟨-,o⟩, -⟩, -⟩, -⟩,i⟩,h⟩:=c;refine⟨⟨f.f.toNat,ω,ω⟩,⟨ω,ω⟩,⟨ω,ω⟩,⟨ω,ω⟩,ω,k,j,fun m b=>?_,e,h⟩;obtain⟨⟨⟨s,r⟩, -⟩, -⟩:=d m b;obtain⟨⟨l,g⟩, -⟩:=i m b;exact⟨⟨m.a.toNat,ω,ω⟩,g,ω,ω⟩
variable {f:Frame}
def FrW.q(h:FrW S.n f):f.f.toNat<S.n:=by
 obtain⟨q,a,e⟩:=h.src;omega
def Wf.a3(h:Wf S)(a:FrW S.n f):Wf (S.MR f):=by
 unfold PS.MR;split
 ·exact h
 ·exact(ak _ _).d ((h.s a.ballot).suspect a.members)
def FrW.b(h:FrW S.n f)(a:f.c=4):f.a≠0/\f.g.length=S.n/\(f.e≠0->f.i.length=S.n):=by
 have:=h.c;unfold cH at this;grind
def FrW.a(h:FrW S.n f)(a:f.c=5):f.a≠0/\f.i.length=S.n:=by
 have:=h.c;unfold cH at this;grind
def FrW.install(h:FrW S.n f)(a:f.c=7):f.i.length=S.n:=by
 have:=h.c;unfold cH at this;grind
def FrW.data(h:FrW S.n f)(c:f.c=1):f.g.length=S.n/\∃m,f.d=[m]/\MsgW S.n m:=by
 have:=h.c;unfold cH at this;simp[c] at this;obtain⟨b,a⟩:=this;match e:f.d,a with
 |[m],_=>exact⟨b,m,rfl,h.msgs m ν⟩
def FrW.gossip(h:FrW S.n f)(a:f.c=2):f.g.length=S.n:=by
 have:=h.c;unfold cH at this;grind
def pz(x:Int):ir x=(if aV x 0 then 1 else 0)+(if aV x 1 then 1 else 0)+(if aV x 2 then 1 else 0)+(if aV x 3 then 1 else 0)+(if aV x 4 then 1 else 0)+(if aV x 5 then 1 else 0):=by
 unfold ir iX;rw[<-List.countP_eq_length_filter,show List.range 6=[0,1,2,3,4,5] from rfl];grind
def Bz(h:bj x){q:Nat}(a:q<6)(b:aV x q=false):ir (j9 x (aO q))=ir x+1:=by
 have e:∀i,aV _ i=(aV x i || decide _):=fun i=>by rw[tj h (.c a),u5]
 rw[pz,pz];simp only[e];match q,a with
 |0,_|1,_|2,_|3,_|4,_|5,_=>grind
def lh.g(h:lh n v B){q:Nat}(d:q<6)(c:aV B.c q=false){a:List Int × Vote}(e:a.1.length=n/\0<=a.2.b/\(a.2.b≠0->a.2.a.length=n)/\bj a.2.m):lh n v (B.f q a):=by
 refine⟨by simp[Bal.f],fun x b=>?_,h.cut,h.num,h.out,h.asked,h.answ.f (.c d),h.acc,?_⟩
 ·rcases List.mem_append.1 b with b|b
  ·exact h.c x b
  grind
 ·show (B.i++[a]).length<=ir (j9 _ _);rw[Bz h.answ d c,List.length_append];have:=h.e;grind
def mY(b:bj B.a)(a:bj B.c){q:Nat}(c:aV (cX B.a B.c) q=true):aV B.c q=false:=by
 rw[lX b a] at c;grind
def Wf.a4(h:Wf S)(p:S.out=false)(m:S.b<2147483648)(a:FrW S.n f)(k:f.c=4):Wf (S.Mv f):=by
 unfold PS.Mv;split
 ·exact h
 ·rename_i B c
  split
  ·rename_i d
   have l:=(Bool.and_eq_true_iff.1 d).2;have g:=a.q;have j:=(h.i g a.row).f a.msgs;have b:=(dq S f.f.toNat f.g).b (bf _ f.d);have i:lh S.n _ (B.f f.f.toNat (f.g,⟨f.e,f.b,f.i⟩)):=(h.lead B c).g (Nat.lt_of_lt_of_le g h.c) (mY (h.lead B c).asked (h.lead B c).answ l) ⟨(a.b k).2.1,a.voted,(a.b k).2.2,a.members⟩;have o:Wf { (S.My f.f.toNat f.g).Mc f.d with d:=some (B.f f.f.toNat _) }:=j.e j.vote fun r e=>by
    cases e;rw[b.n,b.c];exact i
   refine o.b4 (b.out.trans p) (Int.lt_of_le_of_lt (Int.le_of_eq b.a) m) ?_;rw[b.n,b.c];exact i
  ·exact h
def Wf.a1(h:Wf S)(a:FrW S.n f)(c:f.c=5):Wf (S.MK f):=by
 unfold PS.MK;split
 ·exact h
 ·have b:=h.s a.ballot;have d:=b.e (v:=⟨_,_,_⟩) ⟨a.ballot.1,fun _=>(a.a c).2,a.members⟩ fun B e=>by
   have k:=b.lead B e;exact⟨k.f,k.c,fun _=>(a.a c).2,k.num,k.out,k.asked,k.answ,k.acc,k.e⟩
  exact(ak _ _).d (d.f a.msgs)
def Wf.w(h:Wf S)(d:S.out=false)(g:S.b<2147483648)(c:FrW S.n f):Wf (S.Mk f):=by
 unfold PS.Mk;split
 ·exact h
 ·rename_i B b
  split
  ·have k:=h.lead B b;have a:Wf { S with d:=some { B with d:=j9 B.d (aO f.f.toNat) } }:=h.e h.vote fun i e=>by
    cases e;exact⟨k.f,k.c,k.cut,k.num,k.out,k.asked,k.answ,k.acc.f (.c (Nat.lt_of_lt_of_le c.q h.c)),k.e⟩
   exact a.installIf d g _
  ·exact h
def Wf.z(h:Wf S)(c:S.out=false)(d:S.b<2147483648)(b:FrW S.n f):Wf (S.M3 f):=by
 have a:=bf S f.d;exact(h.f b.msgs).install (a.out.trans c) (Int.lt_of_le_of_lt (Int.le_of_eq a.a) d) b.members _
def Wf.a9(h:Wf S)(a:FrW S.n f)(e:f.c=1):Wf (S.MQ f):=by
 obtain⟨-,m,g,c⟩:=a.data e;have d:=(h.i a.q a.row).x c;unfold PS.MQ;rw[g];have b:∀T:PS,Wf T->Wf (if T.h then T else T.MG):=fun T h=>by
  split
  ·exact h
  ·exact h.d _
 exact b _ d
def Wf.a2(h:Wf S)(a:FrW S.n f):Wf (S.ML f):=by
 have b:=h.i a.q a.row;unfold PS.ML;simp only;split
 ·exact b.a0 a.ballot
 ·exact b
def Wf.b3(h:Wf S)(b:S.out=false)(a:FrW S.n f):Wf (S.MW f):=by
 unfold PS.MW;split
 ·exact h
 ·split
  ·unfold PS.MM;split
   ·exact h
   ·exact(ak _ _).d h
  ·split
   ·have c:S.b<2147483648:=by have:=a.view.2;omega
    unfold PS.L9;split
    ·exact h.a9 a ‹_›
    ·split
     ·exact h.a2 a
     ·split
      ·exact h.a3 a
      ·split
       ·exact h.a4 b c a ‹_›
       ·split
        ·exact h.a1 a ‹_›
        ·split
         ·exact h.w b c a
         ·split
          ·exact h.z b c a
          ·exact h
   ·exact h
def Wf.o(h:Wf S)(s:List UInt8):Wf (S.Mn s):=by
 unfold PS.Mn;split
 ·rename_i e
  simp only[Bool.and_eq_true,decide_eq_true_eq,Codec.bM] at e;refine h.b3 ?_ (LB e.1.2.1 e.2);have:=e.1.1;unfold PS.MC at this;grind
 ·exact h
def ei(S:PS)(q:Nat):∃k,Sends S (S.Mz q) k:=⟨_,bK _ 1 (fun T m=>by
 split
 ·exact ak T _
 ·exact(Sends.f T).c ω) _ S⟩
def Wf.q{c:Type}{g:PS->c->PS}(b:∀T a,Wf T->Wf (g T a)):∀(l:List c) (S:PS),Wf S->Wf (l.foldl g S)
 |[],_,h=>h
 |a::l,S,h=>Wf.q b l _ (b S a h)
def Wf.tick(h:Wf S):Wf S.tick:=by
 unfold PS.tick;split
 ·refine Wf.q (fun T q a=>?_) _ _ h.l;split
  ·exact(ak _ _).d a
  ·obtain⟨k,b⟩:=ei _ q;exact b.d ((ak _ _).d a)
 ·exact h
def Wf.b6(h:Wf S)(l:List (List UInt8)):Wf (S.Nc l):=(Wf.q (fun _ s a=>Wf.o a s) l S h).tick
def Wf.a8(h:Wf S){q:Nat}(a:q<6):Wf (S.Mu q):=by
 unfold PS.Mu;split
 ·exact h.suspect (.c a)
 ·exact h
def Wf.crash(h:Wf S):Wf S.crash:=⟨h.c,h.num,h.a,h.kn,h.ms,h.view,h.mem,h.sus,h.h,h.prom,h.vote,h.lead,h.left,h.t⟩
def tq(a:S.Mf t=0):S.MC=0/\S.h=false/\S.Ml.getD S.c 0<20/\t.size<=16/\(S.o.filter fun m=>m.a == (S.c:Int)).length<S.r:=by
 unfold PS.Mf at a;grind
def Wf.u(h:Wf S)(t:ByteArray)(a:S.Ml.getD S.c 0<20):MsgW S.n (S.Ma t):=
 ⟨⟨_,h.num,rfl⟩,by simp[PS.Ma,h.g.1],by have:=(h.g.at h.num).1;show 0<=S.Ml.getD _ 0+1;omega,by show S.Ml.getD _ 0+1<=20;omega⟩
def Wf.b9(h:Wf S)(d:S.Ml.getD S.c 0<20):Wf (S.MV (S.Ma t)):=by
 have a:=(h.k (m:=S.Ma t) h.num rfl rfl (by show S.Ml.getD _ 0+1<=20;omega) 1).1;have e:Wf { S.Ms (S.Ma t) 1 with o:=PS.put (S.Ms (S.Ma t) 1).o (S.Ma t) }:=by
  refine⟨a.c,a.num,a.a,a.kn,fun m c=>?_,a.view,a.mem,a.sus,a.h,a.prom,a.vote,a.lead,a.left,a.t⟩;unfold PS.put at c;split at c
  ·obtain⟨x,b,rfl⟩:=List.mem_map.1 c;split
   ·exact h.u t d
   ·exact h.ms x b
  ·rcases List.mem_append.1 c with b|b
   ·exact h.ms m b
   ·rw[List.mem_singleton] at b;subst b;exact h.u t d
 exact e.j
def Wf.cast(h:Wf S)(t:ByteArray):Wf (S.cast t):=by
 unfold PS.cast;split
 ·refine Wf.q (fun T q a=>(ak T _).d a) _ _ (h.b9 (tq ‹_›).2.2.1)
 ·exact h
def DK{a b:Nat}(g:n<=6)(d:a<n):Wf (PS.Ni a n b):=by
 have c:(PS.Ni a n b).Ml=List.replicate n 0:=by
  show (List.replicate n _).getD a []=_;simp[d]
 refine⟨g,d,List.length_replicate,fun r c=>?_,nofun,⟨Int.le_refl _,by show 0<=2147483648;decide⟩,?_,bj.b,⟨?_,?_⟩,nD.a,⟨Int.le_refl _,fun e=>(e rfl).elim,bj.b⟩,nofun,⟨Nat.le_refl _,fun _=>rfl⟩,?_⟩
 ·rw[(List.mem_replicate.1 c).2];exact⟨List.length_replicate,fun x h=>ν⟩
 ·show bj (2 ^ n - 1);match n,g with
  |0,_|1,_|2,_|3,_|4,_|5,_|6,_=>exact⟨θ,θ⟩
 ·show fK 0 _=0;unfold fK;simp
 ·show aV 0 a=false;rw[show 0=((0:Nat):Int) from rfl,bT,Nat.zero_testBit]
 ·rw[c,rF];show 0+20 * n+1<=122 * 1;omega
end
end
section
open Codec (Msg Frame)
variable {C C':List (Int × Msg)}{p n:Nat}{v:Int}{row:List Int}{evs:List Ev}{S T:PS}{q i:Nat}{y e:Ev}{m:Msg}{l:List Ev}
def msgE(e:Ev):Prop:=e.b=1\/e.b=2
def keyE(a b:Ev):Prop:=a.a=b.a/\a.d=b.d/\a.seq=b.seq
def u0(m:Msg)(s:Nat)(j:Int):Prop:=if (s:Int)=m.a then j<m.seq else j<=m.c.getD s 0
structure EI (C:List (Int × Msg)) (p n:Nat) (v:Int) (row:List Int) (evs:List Ev):Prop where
 t:∀e∈evs,e.a<=v
 src:∀e∈evs,msgE e->∃s:Nat,s<n/\e.d=s/\1<=e.seq/\(e.a=v->e.seq<=row.getD s 0)
 c:∀s:Nat,s<n->∀j:Int,1<=j->j<=row.getD s 0->∃e∈evs,msgE e/\e.a=v/\e.d=s/\e.seq=j
 d:evs.Pairwise fun a b=>msgE a->msgE b->¬keyE a b
 h:∀e∈evs,msgE e->(e.d=p↔e.b=1)
 g:∀(i:Nat) e,evs[i]?=some e->e.b=2->∃m,(e.a,m)∈C/\m.a=e.d/\m.seq=e.seq/\m.b=e.e/\∀s:Nat,s<n->∀j:Int,1<=j->u0 m s j->∃(i':Nat) (x:Ev),i'<i/\evs[i']?=some x/\msgE x/\x.a=e.a/\x.d=s/\x.seq=j
 f:∀u m,(u,m)∈C->m.a=p->u<=v/\(u=v->m.seq<=row.getD p 0)/\∃k:Nat,evs[k]?=some ⟨1,u,p,m.seq,0,m.b⟩/\∀(j:Nat) x,j<k->evs[j]?=some x->msgE x->x.a=u->∃s:Nat,s<n/\x.d=s/\1<=x.seq/\u0 m s x.seq
def pA(h:(l++[y])[i]?=some e):(i<l.length/\l[i]?=some e)\/(i=l.length/\e=y):=by
 grind
def jI(h:l[i]?=some e):(l++[y])[i]?=some e:=by
 grind
def EI.more(h:EI C p n v row evs)(j:∀x∈C,x∈C')(c:∀x∈C',x∈C\/x.2.a≠p):EI C' p n v row evs:=by
 refine⟨h.t,h.src,h.c,h.d,h.h,fun i e f d=>?_,fun u m a b=>?_⟩
 ·obtain⟨m,a,g⟩:=h.g i e f d;grind
 ·rcases c _ a with a|a
  ·exact h.f u m a b
  grind
def EI.o(h:EI C p n v row evs)(K:¬msgE y){v':Int}{d:List Int}(Q:y.a<=v')(r:(v'=v/\d=row)\/(v<v'/\∀s:Nat,d.getD s 0<=0)):EI C p n v' d (evs++[y]):=by
 have z:v<=v':=by rcases r with ⟨e, -⟩|⟨e, -⟩ <;> omega
 refine⟨fun e b=>?_,fun e b f=>?_,fun s g j o t=>?_,?_,fun e b f=>?_,fun i e o t=>?_,fun u m f g=>?_⟩
 ·rcases List.mem_append.1 b with b|b
  ·exact Int.le_trans (h.t e b) z
  grind
 ·rcases List.mem_append.1 b with b|b
  ·obtain⟨s,g,I,L,U⟩:=h.src e b f;refine⟨s,g,I,L,fun P=>?_⟩;rcases r with ⟨rfl,rfl⟩|⟨H, -⟩
   ·omega
   ·have:=h.t e b;omega
  grind
 ·rcases r with ⟨rfl,rfl⟩|⟨-,V⟩
  ·obtain⟨e,b,r⟩:=h.c s g j o t;grind
  grind
 ·rw[List.pairwise_append];refine⟨h.d,List.pairwise_singleton _ _,fun a _ c W _ f=>?_⟩;grind
 ·rcases List.mem_append.1 b with b|b
  ·exact h.h e b f
  grind
 ·rcases pA o with ⟨-,o⟩|⟨-,rfl⟩
  ·obtain⟨m,f,E,D,A,B⟩:=h.g i e o t;refine⟨m,f,E,D,A,fun s g j w O=>?_⟩;obtain⟨N,x,G,F,M⟩:=B s g j w O;exact⟨N,x,G,jI F,M⟩
  ·exact(K (.inr t)).elim
 ·obtain⟨E,D,k,A,B⟩:=h.f u m f g;refine⟨ω,fun e=>?_,k,jI A,fun j x w R=>B j x w ?_⟩
  ·grind
  grind
def u4{r:List Int}{s:Nat}{x:Int}(a:q<r.length):(r.set q x).getD s 0=if q=s then x else r.getD s 0:=by
 grind
def EI.r(h:EI C p n v row evs)(hl:row.length=n)(Z:q<n){kind:Int}(B:m.a=q)(hn:m.seq=row.getD q 0+1)(h0:0<=row.getD q 0)(hC:∀x∈C,x∈C')
 (V:(kind=2/\q≠p/\(∀x∈C',x∈C)/\(v,m)∈C/\∀s:Nat,s<n->s≠q->m.c.getD s 0<=row.getD s 0)\/(kind=1/\q=p/\(∀x∈C',x∈C\/x=(v,m))/\∀s:Nat,s<n->s≠q->row.getD s 0<=m.c.getD s 0)) :
 EI C' p n v (row.set q (row.getD q 0+1)) (evs++[⟨kind,v,m.a,m.seq,0,m.b⟩]):=by
 have A:q<row.length:=by rw[hl];exact Z
 have X:msgE ⟨kind,v,m.a,m.seq,0,m.b⟩:=by rcases V with ⟨e, -⟩|⟨e, -⟩ <;> simp[msgE,e]
 have L:∀s:Nat,row.getD s 0<=(row.set q (row.getD q 0+1)).getD s 0:=fun s=>by
  grind
 refine⟨fun e d=>?_,fun e d f=>?_,fun s b j t z=>?_,?_,fun e d f=>?_,fun i e t z=>?_,fun u w G b=>?_⟩
 ·rcases List.mem_append.1 d with d|d
  ·exact h.t e d
  grind
 ·rcases List.mem_append.1 d with d|d
  ·obtain⟨s,b,e1,e2,e3⟩:=h.src e d f;grind
  grind
 ·rw[u4 A] at z;by_cases e:q=s
  ·subst e;rw[if_pos rfl] at z;by_cases r:j<=row.getD q 0
   ·obtain⟨x,o,M⟩:=h.c q Z j t r;grind
   grind
  ·rw[if_neg e] at z;obtain⟨x,o,M⟩:=h.c s b j t z;grind
 ·rw[List.pairwise_append];refine⟨h.d,List.pairwise_singleton _ _,fun a D c hc Q _ F=>?_⟩;rw[List.mem_singleton] at hc;subst hc;obtain⟨s,b,e1,e2,e3⟩:=h.src a D Q;obtain⟨k1,k2,k3⟩:=F;grind
 ·rcases List.mem_append.1 d with d|d
  ·exact h.h e d f
  grind
 ·rcases pA t with ⟨-,t⟩|⟨hi,rfl⟩
  ·obtain⟨w,f,Y,O,H,P⟩:=h.g i e t z;refine⟨w,hC _ f,Y,O,H,fun s B j r D=>?_⟩;obtain⟨N,x,b1,b2,b3⟩:=P s B j r D;exact⟨N,x,b1,jI b2,b3⟩
  ·rcases V with ⟨-,a5, -,U,ht⟩|⟨e, -⟩
   ·refine⟨m,hC _ U,rfl,rfl,rfl,fun s b j r D=>?_⟩;have I:j<=row.getD s 0:=by
     unfold u0 at D;by_cases e:s=q
     ·grind
     ·grind
    obtain⟨x,o,M⟩:=h.c s b j r I;obtain⟨N,a6,a0⟩:=List.mem_iff_getElem.1 o;refine⟨N,x,ω,jI ν,M⟩
   grind
 ·have E:(u,w)∈C->u<=v/\(u=v->w.seq<=(row.set q (row.getD q 0+1)).getD p 0)/\∃k:Nat,(evs++[⟨kind,v,m.a,m.seq,0,m.b⟩])[k]?=some ⟨1,u,p,w.seq,0,w.b⟩/\∀(j:Nat) x,j<k->(evs++[⟨kind,v,m.a,m.seq,0,m.b⟩])[j]?=some x->msgE x->x.a=u->∃s:Nat,s<n/\x.d=s/\1<=x.seq/\u0 w s x.seq:=fun f=>by
   obtain⟨Y,O,k,H,P⟩:=h.f u w f b;refine⟨Y,fun e=>Int.le_trans (O e) (L p),k,jI H,fun j x r o=>P j x r ?_⟩;rcases pA o with ⟨-,o⟩|⟨e, -⟩
   ·exact o
   ·have:=(List.getElem?_eq_some_iff.1 H).1;omega
  rcases V with ⟨-, -,g, -⟩|⟨R,K,g,ht⟩
  ·exact E (g _ G)
  ·rcases g _ G with f|f
   ·exact E f
   ·cases f;subst K;refine⟨Int.le_refl _,fun _=>by rw[u4 A,if_pos rfl];omega,evs.length,by rw[List.getElem?_append_right (Nat.le_refl _),Nat.sub_self,R,B];rfl,fun j x r o W hv=>?_⟩;rw[List.getElem?_append_left r] at o;obtain⟨s,t,z,h3,h4⟩:=h.src x (List.mem_of_getElem? o) W;refine⟨s,t,z,h3,?_⟩;have:=h4 hv;unfold u0;by_cases e:s=q
    ·subst e;rw[if_pos (by rw[B])];omega
    ·rw[if_neg (by rw[B];omega)];exact Int.le_trans this (ht s t e)
structure CI (C:List (Int × Msg)) (S:PS):Prop where
 ms:∀m∈S.o,(S.b,m)∈C
 left:∀(i:Nat) e,S.i[i]?=some e->∀m∈e.b,((i:Int),m)∈C
 snt:∀f∈S.e,Codec.dg f=true/\(∃q:Nat,q<S.n/\f.j=q)/\∀m∈f.d,(f.h,m)∈C
 b:EI C S.c S.n S.b S.Ml S.j
def CI.more(h:CI C S)(b:∀x∈C,x∈C')(g:∀x∈C',x∈C\/x.2.a≠(S.c:Int)):CI C' S:=
 ⟨fun m a=>b _ (h.ms m a),fun i e d m a=>b _ (h.left i e d m a),fun f c=>⟨(h.snt f c).1,(h.snt f c).2.1,fun m a=>b _ ((h.snt f c).2.2 m a)⟩,h.b.more b g⟩
def CI.h(h:CI C S){f:Frame}(c:∃q:Nat,q<S.n/\f.j=q)(b:∀m∈f.d,(f.h,m)∈C):CI C (S.MZ f):=by
 unfold PS.MZ;split
 ·refine⟨h.ms,h.left,fun g a=>?_,h.b⟩;rcases List.mem_append.1 a with a|a
  ·exact h.snt g a
  grind
 ·exact h
def fT{c:Type}{g:PS->c->PS}{P:PS->Prop}:∀(l:List c) (S:PS),(∀T,∀a∈l,P T->P (g T a))->P S->P (l.foldl g S)
 |[],_,_,h=>h
 |a::l,S,b,h=>fT l _ (fun T x f d=>b T x ν d) (b S a ς h)
def j8(S:PS)(f:Frame):dh S (S.MZ f):=(ak S f).a
def CI.t(h:CI C S){f:Type}{c:PS->f->Frame}{l:List f}(j:∀T a,a∈l->∃q:Nat,q<S.n/\(c T a).j=q)(d:∀T a,a∈l->dh S T->∀m∈(c T a).d,((c T a).h,m)∈C):CI C (l.foldl (fun T a=>T.MZ (c T a)) S):=
 (fT (P:=fun T=>CI C T/\dh S T) l S (fun T a g b=>⟨b.1.h (by rw[b.2.n];simp_all) (d T a g b.2),b.2.b (j8 T _)⟩) ⟨h,dh.e S⟩).1
def CI.j(h:CI C S):CI C S.M1:=⟨fun m a=>h.ms m (List.mem_filter.1 a).1,h.left,h.snt,h.b⟩
def CI.r(h:CI C S)(a:q≠S.c)(r:List Int):CI C (S.My q r):=by
 refine CI.j ⟨h.ms,h.left,h.snt,?_⟩;have:({ S with q:=S.q.set q (dB (S.q.getD q []) r) }).Ml=S.Ml:=by
  show (S.q.set q _).getD _ []=S.q.getD _ [];simp[List.getElem?_set_ne a]
 rw[this];exact h.b
def CI.x(h:CI C S)(b:(S.b,m)∈C):CI C (S.MX m):=by
 unfold PS.MX;split
 ·exact h
 ·refine⟨fun x a=>?_,h.left,h.snt,h.b⟩;rcases List.mem_append.1 a with a|a
  ·exact h.ms x a
  grind
def CI.c(h:CI C S){l:List Msg}(c:∀m∈l,(S.b,m)∈C):CI C (S.Mc l):=
 (fT (P:=fun T=>CI C T/\dh S T) l S (fun T a d b=>⟨b.1.x (by rw[b.2.a];grind),b.2.b (nc T a)⟩) ⟨h,dh.e S⟩).1
def rE(b:Wf S)(c:m.a=q)(a:Int):(S.Ms m a).Ml=S.Ml.set q m.seq:=by
 show (S.q.set _ _).getD S.c []=_;simp[b.a,b.num,c]
def CI.g:∀(k:Nat) (S:PS) (a:List Int),Wf S->CI C S->CI C (PS.Mt k S a)
 |0,_,_,_,h=>h
 | k + 1, S, a, d, h => by
   rw[PS.Mt];split
   ·exact h
   ·rename_i m w
    obtain⟨c,q,g,r,o, -,b⟩:=dy w;refine CI.g k _ a (d.k g r o (d.ms m c).a 2).1.j (CI.j ?_);have j:=d.g.1;refine⟨h.ms,h.left,h.snt,?_⟩;rw[rE d r];have t:=h.b.r j g r o (d.g.at g).1 (fun _ f=>f) (.inl ⟨rfl,fun e=>?_,fun _ f=>f,h.ms m c,fun s x u=>?_⟩)
    ·rw[<-o] at t;exact t
    ·have:=(h.b.f _ m (h.ms m c) ω).2.1 rfl;grind
    ·have:=List.all_eq_true.1 b s (List.mem_range.2 ω);grind
def CI.deliver(h:CI C S)(b:Wf S)(a:List Int):CI C (S.Mb a):=CI.g 121 S a b h
end
section
open Codec (Msg Frame)
variable {C C':List (Int × Msg)}{S T:PS}{f:Frame}{t:ByteArray}
def CI.install(h:CI C S)(l:Wf S)(q:S.out=false)(m:Int)(a:List Int):CI C (S.install m a):=by
 have k:=h.deliver l a;have d:=l.d a;have p:=eh S a;have c:=p.out.trans q;unfold PS.install;generalize S.Mb a=U at k d c ⊢;have g:∀(i:Nat) e,(U.M6 m a).i[i]?=some e->∀m∈e.b,((i:Int),m)∈C:=fun i e b x j=>by
  have b:(U.i++[(⟨m,a,_⟩:Lft)])[i]?=some e:=b;by_cases o:i<U.i.length
  ·rw[List.getElem?_append_left o] at b;exact k.left i e b x j
  ·rw[List.getElem?_append_right ω] at b;have n:=(List.getElem?_eq_some_iff.1 b).1;simp only[List.length_cons,List.length_nil] at n;rw[show i - U.i.length=0 by omega] at b;simp only[List.getElem?_cons_zero,Option.some.injEq] at b;subst b;have u:=d.left.2 c;have r:=d.view.1;rw[show i=U.b by omega];exact k.ms x (jK j)
 split
 ·refine⟨nofun,g,k.snt,?_⟩;refine k.b.o (by simp[msgE]) (v':=U.b+1) (Int.le_refl _) (.inr ⟨ω,fun s=>?_⟩);have e:((U.M6 m a).enter m).Ml=List.replicate U.Ml.length 0:=by
   have g:U.c<U.q.length:=by rw[d.a];exact d.num
   show (U.q.map _).getD U.c []=List.replicate (U.q.getD U.c []).length 0;simp[g]
  grind
 ·exact⟨k.ms,g,k.snt,k.b.o (by simp[msgE]) (Int.le_refl _) (.inl ⟨rfl,rfl⟩)⟩
def CI.k(h:CI C S)(v:Vote)(L:Option Bal):CI C { S with a:=v,d:=L }:=⟨h.ms,h.left,h.snt,h.b⟩
def CI.d(h:CI C S)(B:Bal):CI C (S.Mi B):=h.t (fun _ q a=>⟨q,(eX.1 a).1,rfl⟩) (fun _ _ _ _=>nofun)
def CI.a(h:CI C S)(B:Bal):CI C (S.Mj B):=h.t (fun _ q a=>⟨q,(eX.1 a).1,rfl⟩) (fun T _ _ b m c=>by
 rw[b.a];exact h.ms m (jK c))
def CI.o(h:CI C S):CI C S.MF:=h.t (fun _ q a=>⟨q,(eX.1 a).1,rfl⟩) (fun T _ _ b m c=>by
 rw[b.a];exact h.ms m (jK c))
def CI.installIf(h:CI C S)(b:Wf S)(c:S.out=false)(B:Bal):CI C (S.installIf B):=by
 unfold PS.installIf;split
 ·obtain⟨k,a⟩:=df S;exact h.o.install (a.d b) (a.a.out.trans c) _ _
 ·exact h
def CI.w(h:CI C S)(c:Wf S)(d:S.out=false){B:Bal}(b:lh S.n S.a B):CI C (S.MA B):=by
 unfold PS.MA;split
 ·obtain⟨k,a⟩:=bo _ _;exact CI.installIf ((h.k _ _).a _) (a.d (c.a5 b)) (a.a.out.trans d) _
 ·exact h
def CI.p(h:CI C S)(b:Wf S):CI C S.Me:=by
 unfold PS.Me;split
 ·rename_i e
  simp only[Bool.and_eq_true,decide_eq_true_eq] at e;rw[u2 b e.1.1];have a:CI C S.l:=⟨h.ms,h.left,h.snt,h.b⟩;exact a.d _
 ·split
  ·unfold PS.Mr;split
   ·exact h.d _
   ·exact h.a _
  ·exact h
def Ih(C:List (Int × Msg))(f:Frame):Prop:=∀m∈f.d,(f.h,m)∈C
def CI.v(h:CI C S)(b:Wf S)(v:S.out=false)(a:FrW S.n f)(E:Ih C f)(H:f.f≠S.c):CI C (S.MW f):=by
 have g:f.f.toNat≠S.c:=fun e=>by
  obtain⟨q, -,r⟩:=a.src;omega
 unfold PS.MW;split
 ·exact h
 ·split
  ·unfold PS.MM;split
   ·exact h
   ·refine h.h ⟨f.f.toNat,a.q,rfl⟩ fun m c=>?_;rw[List.getD_eq_getElem?_getD] at c;match e:S.i[f.h.toNat]? with
    |none=>grind
    | some x =>
      rw[e] at c;have:=h.left _ x e m c;have G:=a.view.1;grind
  ·split
   ·have z:f.h=S.b:=ω;have d:=fun m c=>z▸E m c;unfold PS.L9;split
    ·rename_i o
     obtain⟨-,m,c,A⟩:=a.data o;have j:=(h.r g f.g).x (d m ν);have p:=(b.i a.q a.row).x A;unfold PS.MQ;rw[c];have w:∀T:PS,Wf T->CI C T->CI C (if T.h then T else T.MG):=fun T b h=>by
      split
      ·exact h
      ·exact h.deliver b _
     exact w _ p j
    ·split
     ·have j:=h.r g f.g;have w:∀T:PS,CI C T->CI C (if T.g<f.a then T.MH f.a else T):=fun T h=>by
       split
       ·exact⟨h.ms,h.left,h.snt,h.b⟩
       ·exact h
      exact w _ j
     ·split
      ·unfold PS.MR;split
       ·exact h
       ·exact CI.h (S:=(S.Mx f.a).suspect f.b) ⟨h.ms,h.left,h.snt,h.b⟩ a.src fun m c=>h.ms m (lq.1 c)
      ·split
       ·rename_i o
        unfold PS.Mv;split
        ·exact h
        ·rename_i B i
         split
         ·rename_i s
          have F:=(Bool.and_eq_true_iff.1 s).2;have r:=a.q;have j:=(h.r g f.g).c (l:=f.d) d;have p:=(b.i r a.row).f (l:=f.d) a.msgs;have u:=(dq S f.f.toNat f.g).b (bf _ f.d);have y:lh S.n S.a (B.f f.f.toNat (f.g,⟨f.e,f.b,f.i⟩)):=(b.lead B i).g (Nat.lt_of_lt_of_le r b.c) (mY (b.lead B i).asked (b.lead B i).answ F) ⟨(a.b o).2.1,a.voted,(a.b o).2.2,a.members⟩;have l:lh ((S.My f.f.toNat f.g).Mc f.d).n ((S.My f.f.toNat f.g).Mc f.d).a (B.f f.f.toNat (f.g,⟨f.e,f.b,f.i⟩)):=by
           rw[u.n,u.c];exact y
          exact CI.w (j.k ((S.My f.f.toNat f.g).Mc f.d).a (some (B.f f.f.toNat (f.g,⟨f.e,f.b,f.i⟩)))) (p.e (v:=((S.My f.f.toNat f.g).Mc f.d).a) p.vote fun D e=>by cases e;exact l) (u.out.trans v) l
         ·exact h
       ·split
        ·unfold PS.MK;split
         ·exact h
         ·refine CI.h ?_ (by rw[(bf _ f.d).n];exact a.src) (fun _ c=>(List.not_mem_nil c).elim);exact CI.c (S:={ S.Mx f.a with a:=⟨f.a,f.b,f.i⟩ }) ⟨h.ms,h.left,h.snt,h.b⟩ d
        ·split
         ·unfold PS.Mk;split
          ·exact h
          ·rename_i B i
           split
           ·have k:=b.lead B i;refine CI.installIf (h.k S.a (some { B with d:=j9 B.d (aO f.f.toNat) })) (b.e (v:=S.a) b.vote fun D e=>?_) v _;cases e;exact⟨k.f,k.c,k.cut,k.num,k.out,k.asked,k.answ,k.acc.f (.c (Nat.lt_of_lt_of_le a.q b.c)),k.e⟩
           ·exact h
         ·split
          ·exact CI.install (h.c d) (b.f a.msgs) ((bf S f.d).out.trans v) _ _
          ·exact h
   ·exact h
def Bo(h:S.MC=0):S.f=false/\S.out=false:=by
 unfold PS.MC at h;grind
def CI.s(h:CI C S)(d:Wf S){s:List UInt8}(c:Codec.bM s=true->Ih C (Codec.bO s).1):CI C (S.Mn s):=by
 unfold PS.Mn;split
 ·rename_i e
  simp only[Bool.and_eq_true,decide_eq_true_eq] at e;have b:=e.1.2;have a:=e.2;refine h.v d (Bo e.1.1).2 (LB (by simp only[Codec.bM,Bool.and_eq_true] at b;grind) a) (c b) ?_;simp only[na,Bool.and_eq_true,bne_iff_ne,ne_eq] at a;omega
 ·exact h
def u7(S:PS)(q:Nat):dh S (S.gossip q):=j8 S _
def CI.l(h:CI C S){q:Nat}(c:q<S.n):CI C (S.Mz q):=by
 refine(fT (P:=fun T=>CI C T/\dh S T) _ S (fun T m d a=>?_) ⟨h,dh.e S⟩).1;split
 ·refine⟨a.1.h ⟨q,by rw[a.2.n];exact c,rfl⟩ fun x b=>?_,a.2.b (j8 T _)⟩;rw[List.mem_singleton] at b;subst b;rw[a.2.a];exact h.ms x (lq.1 d)
 omega
def CI.tick(h:CI C S)(g:Wf S):CI C S.tick:=by
 unfold PS.tick;split
 ·refine(fT (P:=fun T=>CI C T/\T.n=S.Me.n) _ _ (fun T q b a=>?_) ⟨h.p g,rfl⟩).1;have b:q<T.n:=by rw[a.2];exact(eX.1 b).1
  have d:CI C (T.gossip q):=a.1.h ⟨q,b,rfl⟩ (fun _ i=>(List.not_mem_nil i).elim);have c:=u7 T q;split
  ·exact⟨d,c.n.trans a.2⟩
  ·obtain⟨k,e⟩:=ei _ q;exact⟨d.l (by rw[c.n];exact b),(e.a.n.trans c.n).trans a.2⟩
 ·exact h
def CI.y(h:CI C S)(d:Wf S){l:List (List UInt8)}(c:∀s∈l,Codec.bM s=true->Ih C (Codec.bO s).1):CI C (S.Nc l):=by
 have:=fT (P:=fun T=>CI C T/\Wf T) l S (fun T s b a=>⟨a.1.s a.2 (c s b),a.2.o s⟩) ⟨h,d⟩;exact this.1.tick this.2
def CI.u(h:CI C S)(q:Nat):CI C (S.Mu q):=by
 unfold PS.Mu;split
 ·exact⟨h.ms,h.left,h.snt,h.b⟩
 ·exact h
def CI.crash(h:CI C S):CI C S.crash:=⟨h.ms,h.left,h.snt,h.b⟩
def CI.cast(h:CI C S)(d:Wf S)(p:S.Mf t=0):CI (C++[(S.b,S.Ma t)]) (S.cast t):=by
 have a:∀x∈C,x∈C++[(S.b,S.Ma t)]:=fun x c=>ν;have j:=d.g.1;have u:CI (C++[(S.b,S.Ma t)]) { S.Ms (S.Ma t) 1 with o:=PS.put (S.Ms (S.Ma t) 1).o (S.Ma t) }:=by
  refine⟨fun m b=>?_,fun i e o m b=>a _ (h.left i e o m b),fun f g=>⟨(h.snt f g).1,(h.snt f g).2.1,fun m b=>a _ ((h.snt f g).2.2 m b)⟩,?_⟩
  ·have k:(S.b,S.Ma t)∈C++[(S.b,S.Ma t)]:=(by simp);show (S.b,m)∈_;unfold PS.put at b;split at b
   ·obtain⟨x,c,rfl⟩:=List.mem_map.1 b;split
    ·omega
    ·exact a _ (h.ms x c)
   ·rcases List.mem_append.1 b with c|c
    ·exact a _ (h.ms m c)
    grind
  ·show EI _ _ S.n _ (S.Ms _ 1).Ml _;rw[rE d rfl];refine h.b.r j d.num rfl rfl (d.g.at d.num).1 a (.inr ⟨rfl,rfl,fun x c=>?_,fun s w r=>?_⟩)
   ·grind
   ·show S.Ml.getD s 0<=(S.Ml.set _ _).getD s 0;grind
 unfold PS.cast;rw[if_pos p];refine u.j.t (fun _ q l=>⟨q,(eX.1 l).1,rfl⟩) (fun T _ _ v m b=>?_);rw[List.mem_singleton] at b;subst b;show (T.b,_)∈_;rw[v.a];exact List.mem_append_right _ (List.mem_singleton_self _)
def FN(a:S.Mf t≠0):S.cast t=S:=by unfold PS.cast;grind
def Ij{a n b:Nat}(d:a<n):CI [] (PS.Ni a n b):=by
 have c:(PS.Ni a n b).Ml=List.replicate n 0:=by
  show (List.replicate n _).getD a []=_;simp[d]
 refine⟨nofun,nofun,nofun,?_⟩;rw[c];exact⟨nofun,nofun,fun s h j g e=>ν,List.Pairwise.nil,nofun,nofun,nofun⟩
