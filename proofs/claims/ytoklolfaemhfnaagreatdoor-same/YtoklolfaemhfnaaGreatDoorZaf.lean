set_option maxRecDepth 100000
set_option maxHeartbeats 0
set_option linter.defProp false
abbrev ϑ:=Nat->Prop
abbrev Υ:=List Int
section
def ω{p:Prop}(h:p:=by omega):p:=h
def ς{p:Prop}(h:p:=by simp):p:=h
def θ{p:Prop}(h:p:=by decide):p:=h
def ν{p:Prop}(h:p:=by grind):p:=h
end
namespace Go.Proofs.Y.Crc
section
variable {bs:List UInt8}{l:Υ}{i:Nat}
def sh(w:Nat):Nat:=if w%2=1 then (w/2)^^^0xEDB88320 else w/2
def uX:Nat->Nat->Nat
 |0,w=>w
 |t+1,w=>sh (uX t w)
def start:Nat:=4294967295
def xG(bs:List UInt8):Nat:=bs.foldl (λw b=>uX 8 (w^^^b.toNat)) start
def zU(bs:List UInt8):Nat:=xG bs^^^4294967295
def eH(w j:Nat):(sh w).testBit j=(w.testBit (j+1)^^(w.testBit 0&&(0xEDB88320:Nat).testBit j)):=by unfold sh;grind
def Dy(w:Nat)(h:w<4294967296):sh w<4294967296:=by unfold sh;split;exact Nat.xor_lt_two_pow (n:=32) ω ω;omega
def la(t w:Nat)(h:w<4294967296):uX t w<4294967296:=by
 induction t with
 |zero=>exact h
 |succ t a=>exact Dy _ a
def Dw(a:List UInt8)(b:UInt8):xG (a++[b])=uX 8 (xG a^^^b.toNat):=by simp[xG]
def Dv(a:List UInt8):xG a<4294967296:=by
 suffices ∀(l:List UInt8)(w:Nat),w<4294967296->l.foldl (λw b=>uX 8 (w^^^b.toNat)) w<4294967296 from this a _ θ;intro l;induction l with
 |nil=>simp
 |cons b l c=>
  intro w h;exact c _ (la _ _ (Nat.xor_lt_two_pow (n:=32) ω (by have:=b.toNat_lt;omega)))
def po(a:List UInt8)(k:Nat)(h:k<a.length):a.take (k+1)=a.take k++[a.getD k 0]:=by simp_all
def uU(a:List UInt8)(k:Nat)(h:k<a.length):xG (a.take (k+1))=uX 8 (xG (a.take k)^^^(a.getD k 0).toNat):=by rw[po a k h,Dw]
def sZ(a:List UInt8):zU a<4294967296:=Nat.xor_lt_two_pow (n:=32) (Dv a) ω
end
end Go.Proofs.Y.Crc
namespace Go.Proofs.Y.Codec
section
variable {x y:Nat}{n:Int}
structure Msg where
 a:Int
 seq:Int
 c:Υ
 b:ByteArray
structure Frame where
 c:Int
 f:Int
 j:Int
 b:Int
 h:Int
 a:Int
 e:Int
 g:Υ
 i:Υ
 d:List Msg
def iq(n low high:Int):Bool:=decide (low<=n)&&decide (n<=high)
def aA(l:Υ):Bool:=decide (l.length<=6)&&l.all λn=>iq n 0 20
def aK(m:Msg):Bool:=iq m.a 0 5&&iq m.seq 1 20&&aA m.c&&decide (m.b.size<=16)
def cd(l:List Msg):Bool:=decide (l.length<=200)&&l.all aK
def dk(f:Frame):Bool:=iq f.c 1 7&&iq f.f 0 5&&iq f.j 0 5&&iq f.b 0 63
def bS(f:Frame):Bool:=iq f.h 0 2147483647&&iq f.a 0 2147483647&&iq f.e 0 2147483647
def dg(f:Frame):Bool:=dk f&&bS f&&aA f.g&&aA f.i&&cd f.d
def de{b a:Int}:iq n b a=true↔b<=n/\n<=a:=by simp[iq]
def b8(n:Int):UInt8:=UInt8.ofNat n.toNat
def ca(b:0<=n)(a:n<256):((b8 n).toNat:Int)=n:=by simp[b8];omega
def cj(n:Nat):List UInt8:=[UInt8.ofNat (n/16777216),UInt8.ofNat (n/65536),UInt8.ofNat (n/256),UInt8.ofNat n]
def dH(l:Υ):List UInt8:=UInt8.ofNat l.length::l.map b8
def pn(m:Msg):List UInt8:=[b8 m.a,b8 m.seq]++dH m.c++[UInt8.ofNat m.b.size]++m.b.data.toList
def ef(l:List Msg):List UInt8:=(l.map pn).flatten
def gT(f:Frame):List UInt8:=
 [b8 f.c,b8 f.f,b8 f.j,b8 f.b]++cj f.h.toNat++cj f.a.toNat++cj f.e.toNat++dH f.g++dH f.i++[UInt8.ofNat f.d.length]++ef f.d
def im(f:Frame):List UInt8:=gT f++cj (Crc.zU (gT f))
def xE(l:List Msg)(m:Msg):ef (l++[m])=ef l++pn m:=by simp[ef]
def eW:List UInt8->Int×List UInt8
 |[]=>(0,[])
 |b::r=>((b.toNat:Int),r)
def gM:Nat->List UInt8->Υ×List UInt8
 |0,s=>([],s)
 |n+1,s=>((eW s).1::(gM n (eW s).2).1,(gM n (eW s).2).2)
def mW(s:List UInt8):Υ×List UInt8:=gM (eW s).1.toNat (eW s).2
def ky(s:List UInt8):Int×List UInt8:=
 ((((eW s).1*256+(eW (eW s).2).1)*256+(eW (eW (eW s).2).2).1)*256+(eW (eW (eW (eW s).2).2).2).1,(eW (eW (eW (eW s).2).2).2).2)
def uR(s:List UInt8):ByteArray×List UInt8:=(⟨((eW s).2.take (eW s).1.toNat).toArray⟩,(eW s).2.drop (eW s).1.toNat)
def Cz(s:List UInt8):Msg×List UInt8:=
 let a:=eW s
 let b:=eW a.2
 let t:=mW b.2
 let x:=uR t.2
 (⟨a.1,b.1,t.1,x.1⟩,x.2)
def jD:Nat->List UInt8->List Msg×List UInt8
 |0,s=>([],s)
 |n+1,s=>((Cz s).1::(jD n (Cz s).2).1,(jD n (Cz s).2).2)
def bO(s:List UInt8):Frame×List UInt8:=
 let k:=eW s
 let a:=eW k.2
 let b:=eW a.2
 let m:=eW b.2
 let v:=ky m.2
 let u:=ky v.2
 let t:=ky u.2
 let r:=mW t.2
 let c:=mW r.2
 let n:=eW c.2
 let l:=jD n.1.toNat n.2
 (⟨k.1,a.1,b.1,m.1,v.1,u.1,t.1,r.1,c.1,l.1⟩,l.2)
def iB(b:UInt8)(r:List UInt8):eW (b::r)=((b.toNat:Int),r):=rfl
def Bj(l:Υ)(r:List UInt8)(h:l.all (λn=>iq n 0 20)=true):gM l.length (l.map b8++r)=(l,r):=by
 induction l with
 |nil=>rfl
 |cons x l b=>
  simp only[List.all_cons,Bool.and_eq_true]at h;have a:=de.1 h.1;simp only[List.length_cons,List.map_cons,List.cons_append,gM,iB,b h.2,ca a.1 ω]
def mX(l:Υ)(r:List UInt8)(h:aA l=true):mW (dH l++r)=(l,r):=by
 simp only[aA,Bool.and_eq_true,decide_eq_true_eq]at h;have e:(UInt8.ofNat l.length).toNat=l.length:=by simp;omega
 simp only[mW,dH,List.cons_append,iB,e,Int.toNat_natCast,Bj l r h.2]
def gi(n:Nat)(r:List UInt8)(h:n<4294967296):ky (cj n++r)=((n:Int),r):=by simp only[ky,cj,List.cons_append,List.nil_append,iB];simp;omega
def Bl(t:ByteArray)(r:List UInt8)(h:t.size<=16):uR (UInt8.ofNat t.size::(t.data.toList++r))=(t,r):=by
 have e:(UInt8.ofNat t.size).toNat=t.size:=by simp;omega
 simp only[uR,iB,e,Int.toNat_natCast];simp
def Dt(m:Msg)(r:List UInt8)(h:aK m=true):Cz (pn m++r)=(m,r):=by simp only[aK,Bool.and_eq_true,decide_eq_true_eq]at h;let⟨⟨⟨e,c⟩,b⟩,a⟩:=h;have d:=de.1 e;have f:=de.1 c;simp only[Cz,pn,List.cons_append,List.nil_append,List.append_assoc,iB,mX _ _ b,Bl _ _ a,ca d.1 ω,ca (show 0<=m.seq by omega) ω]
def Bi(l:List Msg)(r:List UInt8)(h:l.all aK=true):jD l.length (ef l++r)=(l,r):=by
 induction l with
 |nil=>rfl
 |cons m l a=>
  simp only[List.all_cons,Bool.and_eq_true]at h;have e:ef (m::l)++r=pn m++(ef l++r):=by simp[ef]
  rw[e];simp only[List.length_cons,jD,Dt m _ h.1,a h.2]
def xD(f:Frame)(r:List UInt8)(h:dg f=true):bO (gT f++r)=(f,r):=by
 simp only[dg,dk,bS,Bool.and_eq_true]at h;let⟨⟨⟨⟨⟨⟨⟨m,d⟩,g⟩,i⟩,⟨⟨b,a⟩,c⟩⟩,k⟩,l⟩,j⟩:=h;rw[de]at m d g i b a c;simp only[cd,Bool.and_eq_true,decide_eq_true_eq]at j;have e:(UInt8.ofNat f.d.length).toNat=f.d.length:=by simp;omega
 simp only[bO,gT,List.cons_append,List.nil_append,List.append_assoc,iB,gi _ _ (show f.h.toNat<4294967296 by omega),gi _ _ (show f.a.toNat<4294967296 by omega),
  gi _ _ (show f.e.toNat<4294967296 by omega),mX _ _ k,mX _ _ l,e,Int.toNat_natCast,Bi _ _ j.2,
  ca (show 0<=f.c by omega) ω,ca d.1 ω,ca g.1 ω,ca i.1 ω]
 rw[Int.toNat_of_nonneg b.1,Int.toNat_of_nonneg a.1,Int.toNat_of_nonneg c.1]
def rB(f:Frame)(h:dg f=true):(bO (im f)).1=f:=by rw[im,xD f _ h]
def bM(s:List UInt8):Bool:=dg (bO s).1&&decide (im (bO s).1=s)
def Ia(g:x<4294967296)(f:y<4294967296)(h:Crc.sh x=Crc.sh y):x=y:=by
 have e:∀j,(Crc.sh x).testBit j=(Crc.sh y).testBit j:=λj=>by rw[h]
 have b:∀j,32<=j->x.testBit j=false:=λj a=>Nat.testBit_lt_two_pow (Nat.lt_of_lt_of_le g (Nat.pow_le_pow_right (n:=2) ω a));have c:∀j,32<=j->y.testBit j=false:=λj a=>Nat.testBit_lt_two_pow (Nat.lt_of_lt_of_le f (Nat.pow_le_pow_right (n:=2) ω a));have d:x.testBit 0=y.testBit 0:=by have:=e 31;rw[Crc.eH,Crc.eH,b 32 ω,c 32 ω]at this;have p:0xEDB88320.testBit 31=true:=θ;rw[p]at this;simpa using this
 apply Nat.eq_of_testBit_eq;intro j;cases j with
 |zero=>exact d
 |succ j=>
  have:=e j;rw[Crc.eH,Crc.eH,d]at this;grind
def zS(t:Nat)(b:x<4294967296)(a:y<4294967296)(h:Crc.uX t x=Crc.uX t y):x=y:=by
 induction t with
 |zero=>exact h
 |succ t c=>exact c (Ia (Crc.la t x b) (Crc.la t y a) h)
def kZ{b:Nat}(h:x^^^b=y^^^b):x=y:=by
 have:(x^^^b)^^^b=(y^^^b)^^^b:=by rw[h]
 grind
def Ds(l:List UInt8):∀{x y:Nat},x<4294967296->y<4294967296->
 l.foldl (λw b=>Crc.uX 8 (w^^^b.toNat)) x=l.foldl (λw b=>Crc.uX 8 (w^^^b.toNat)) y->x=y:=by
 induction l with
 |nil=>simp
 |cons b l f=>
  intro x y e d h;have c:x^^^b.toNat<4294967296:=Nat.xor_lt_two_pow (n:=32) e (by have:=b.toNat_lt;omega);have a:y^^^b.toNat<4294967296:=Nat.xor_lt_two_pow (n:=32) d (by have:=b.toNat_lt;omega);exact kZ (zS 8 c a (f (Crc.la 8 _ c) (Crc.la 8 _ a) h))
def FD(p q:List UInt8)(b c:UInt8)(h:Crc.xG (p++b::q)=Crc.xG (p++c::q)):b=c:=by simp only[Crc.xG,List.foldl_append,List.foldl_cons]at h;have a:p.foldl (λw b=>Crc.uX 8 _) _<4294967296:=Crc.Dv p;generalize p.foldl (λw b=>Crc.uX 8 _) _=w at h a;have e:w^^^b.toNat<4294967296:=Nat.xor_lt_two_pow (n:=32) a (by have:=b.toNat_lt;omega);have d:w^^^c.toNat<4294967296:=Nat.xor_lt_two_pow (n:=32) a (by have:=c.toNat_lt;omega);have:=zS 8 e d (Ds q (Crc.la 8 _ e) (Crc.la 8 _ d) h);rw[Nat.xor_comm w,Nat.xor_comm w]at this;exact UInt8.toNat_inj.1 (kZ this)
def FE(p q:List UInt8)(b c:UInt8)(h:Crc.zU (p++b::q)=Crc.zU (p++c::q)):b=c:=
 FD p q b c (kZ h)
def br(n:Nat):(cj n).length=4:=rfl
def Du(A B:List UInt8)(p q:List UInt8)(b c:UInt8)(g:A++cj (Crc.zU A)=p++b::q)(f:B++cj (Crc.zU B)=p++c::q):b=c:=by
 have j:A.length=B.length:=by have d:=congrArg List.length g;have a:=congrArg List.length f;simp[br]at d a;omega
 by_cases u:p.length<A.length
 ·
  have i:A=p++b::q.take (A.length-p.length-1):=by have h:=congrArg (List.take A.length) g;rw[List.take_left]at h;rw[h,List.take_append,List.take_of_length_le ω,List.take_cons ω];simp
  have k:B=p++c::q.take (A.length-p.length-1):=by have h:=congrArg (List.take B.length) f;rw[List.take_left]at h;rw[h,List.take_append,List.take_of_length_le ω,List.take_cons ω];simp[j]
  have o:cj (Crc.zU A)=cj (Crc.zU B):=by have d:=congrArg (List.drop A.length) g;have a:=congrArg (List.drop B.length) f;rw[List.drop_left]at d a;rw[d,a,j,List.drop_append,List.drop_append,List.drop_of_length_le ω];have e:B.length-p.length=(B.length-p.length-1)+1:=ω;rw[e];rfl
  have l:∀n m:Nat,n<4294967296->m<4294967296->cj n=cj m->n=m:=by intro n m s t h;have d:=gi n [] s;have a:=gi m [] t;have:m=n:=ν;omega
  have:=l _ _ (Crc.sZ A) (Crc.sZ B) o;rw[i,k]at this;exact FE _ _ _ _ this
 ·
  have r:A=B:=by have d:=congrArg (List.take A.length) g;have a:=congrArg (List.take B.length) f;rw[List.take_left]at d a;rw[d,a,j,List.take_append_of_le_length ω,List.take_append_of_le_length ω]
  simp_all
def Ib(f:Frame)(p q:List UInt8)(b c:UInt8)(d:im f=p++b::q)(a:c≠b):bM (p++c::q)=false:=by cases h:bM _;rfl;simp only[bM,Bool.and_eq_true,decide_eq_true_eq]at h;exact absurd (Du _ _ _ _ _ _ h.2 d) a
end
end Go.Proofs.Y.Codec
section
namespace Go.Proofs.Y
structure Ev where
 b:Int
 a:Int
 d:Int
 seq:Int
 c:Int
 e:ByteArray
namespace Mo
open Codec (Msg Frame)
def gv(l:List Msg):Prop:=l.Pairwise λx y=>¬(x.a=y.a/\x.seq=y.seq)
end Mo
end Go.Proofs.Y
end
section
namespace Go.Proofs.Y.Md
open Codec (Msg Frame)
structure Vote where
 b:Int
 m:Int
 a:Υ
structure Bal where
 g:Int
 e:Bool
 out:Int
 a:Int
 c:Int
 d:Int
 i:List (Υ×Vote)
structure Lft where
 m:Int
 a:Υ
 b:List Msg
structure PS where
 c:Nat
 n:Nat
 r:Nat
 f:Bool
 out:Bool
 h:Bool
 b:Int
 m:Int
 k:Int
 g:Int
 a:Vote
 d:Option Bal
 q:List (Υ)
 o:List Msg
 i:List Lft
 j:List Ev
 e:List Frame
def aV(set:Int)(q:Nat):Bool:=decide (set/2^q%2=1)
def cX(a b:Int):Int:=((a.toNat^^^(a.toNat&&&b.toNat):Nat):Int)
def fK(a b:Int):Int:=((a.toNat&&&b.toNat:Nat):Int)
def j9(a b:Int):Int:=((a.toNat|||b.toNat:Nat):Int)
def aO(q:Nat):Int:=((2^q:Nat):Int)
def iX(set:Int)(n:Nat):List Nat:=(List.range n).filter (aV set)
def ir(set:Int):Nat:=(iX set 6).length
def Ik(set:Int):Nat:=(iX set 6).headD 64
def eA(s q:Int)(m:Msg):Bool:=m.a==s&&m.seq==q
def FP(mem:Int)(kn:List (Υ))(s:Nat)(q:Int):Bool:=(List.range kn.length).all λi=>!(aV mem i&&decide ((kn.getD i []).getD s 0<q))
def dB(a row:Υ):Υ:=(List.range a.length).map λs=>max (a.getD s 0) (row.getD s 0)
def aR(cut:Υ)(m:Msg):Bool:=decide (m.seq<=cut.getD m.a.toNat 0)
def Hk(row time:Υ)(s:Nat):Bool:=(List.range row.length).all λq=>decide (q=s)||decide (time.getD q 0<=row.getD q 0)
def jl(a b:Msg):Bool:=decide (a.a<b.a)||(decide (a.a=b.a)&&decide (a.seq<=b.seq))
def Ke(m:Msg):List Msg->List Msg
 |[]=>[m]
 |x::l=>if jl m x then m::x::l else x::Ke m l
def z7(l:List Msg):List Msg:=l.foldr Ke []
namespace PS
def Ml(S:PS):Υ:=S.q.getD S.c []
def MC(S:PS):Int:=if S.f then 6 else if S.out then 7 else 0
def Nh(S:PS)(m:Msg):Bool:=FP S.m S.q m.a.toNat m.seq
def M1(S:PS):PS:={S with o:=S.o.filter λm=>!S.Nh m}
def My(S:PS)(q:Nat)(row:Υ):PS:=M1 {S with q:=S.q.set q (dB (S.q.getD q []) row)}
def MX(S:PS)(m:Msg):PS:=if S.o.any (eA m.a m.seq)||S.Nh m|| !aV S.m m.a.toNat then S else {S with o:=S.o++[m]}
def Mc(S:PS)(l:List Msg):PS:=l.foldl MX S
def Mp(S:PS):List Msg:=z7 S.o
def Mm(S:PS)(cut:Υ):List Msg:=S.Mp.filter (aR cut)
def Ng(S:PS)(e:Ev):PS:={S with j:=S.j++[e]}
def Ms(S:PS)(m:Msg)(kind:Int):PS:=Ng {S with q:=S.q.set S.c (S.Ml.set m.a.toNat m.seq)} ⟨kind,S.b,m.a,m.seq,0,m.b⟩
def M9(S:PS)(cut:Υ)(q:Nat):Option Msg:=(S.o.find? (eA q (S.Ml.getD q 0+1))).filter λm=>aR cut m&&Hk S.Ml m.c q
def Mh(S:PS)(cut:Υ):Option Msg:=(List.range S.n).findSome? (S.M9 cut)
def Mt:Nat->PS->Υ->PS
 |0,S,_=>S
 |k+1,S,cut=>match S.Mh cut with
   |none=>S
   |some m=>Mt k (S.Ms m 2).M1 cut
def Mb(S:PS)(cut:Υ):PS:=Mt 121 S cut
def MG(S:PS):PS:=S.Mb (List.replicate S.n 20)
def MZ(S:PS)(f:Frame):PS:=if Codec.dg {f with f:=S.c} then {S with e:=S.e++[{f with f:=S.c}]} else S
def L8(S:PS):List Nat:=iX (cX S.m (aO S.c)) S.n
def MN(S:PS)(q:Nat)(m:Msg):PS:=S.MZ ⟨1,0,q,0,S.b,0,0,S.Ml,[],[m]⟩
def gossip(S:PS)(q:Nat):PS:=S.MZ ⟨2,0,q,0,S.b,S.g,0,S.Ml,[],[]⟩
def Nl(S:PS)(q:Nat)(m:Msg):Bool:=decide ((S.q.getD q []).getD m.a.toNat 0<m.seq)
def Mz(S:PS)(q:Nat):PS:=S.Mp.foldl (λT m=>if S.Nl q m then T.MN q m else T) S
def suspect(S:PS)(set:Int):PS:={S with k:=j9 S.k (cX (fK set S.m) (aO S.c))}
def MY(S:PS)(b:Int):Bool:=S.d.any λl=>l.g==b
def MH(S:PS)(b:Int):PS:={S with g:=b,d:=if S.MY b then S.d else none}
def Mx(S:PS)(b:Int):PS:={S.MH b with h:=true}
def Nj(S:PS)(set:Int):Bool:=decide (ir S.m<2*ir set)
def Na(S:PS):PS:=Ng {S with out:=true} ⟨4,S.b,0,0,0,⟨#[]⟩⟩
def enter(S:PS)(m:Int):PS:=
 Ng {S with b:=S.b+1,m:=m,k:=fK S.k m,h:=false,g:=0,a:=⟨0,0,[]⟩,d:=none,q:=S.q.map λr=>List.replicate r.length 0,o:=[]} ⟨3,S.b+1,0,0,m,⟨#[]⟩⟩
def M6(S:PS)(m:Int)(cut:Υ):PS:={S with i:=S.i++[⟨m,cut,S.Mm cut⟩]}
def install(S:PS)(m:Int)(cut:Υ):PS:=if aV m S.c then ((S.Mb cut).M6 m cut).enter m else ((S.Mb cut).M6 m cut).Na
def ME(S:PS)(q:Nat)(view:Int)(e:Lft):PS:=S.MZ ⟨7,0,q,e.m,view,0,0,[],e.a,e.b⟩
end PS
def Bal.h(b:Bal):Vote:=b.i.foldl (λv a=>if v.b<a.2.b then a.2 else v) ⟨0,0,[]⟩
def Bal.j(b:Bal):Υ:=b.i.foldl (λc a=>dB c a.1) (b.i.headD ([],⟨0,0,[]⟩)).1
def Bal.b(b:Bal):Vote:=if b.h.b=0 then ⟨b.g,b.a,b.j⟩ else {b.h with b:=b.g}
def Bal.f(b:Bal)(q:Nat)(a:Υ×Vote):Bal:={b with c:=j9 b.c (aO q),i:=b.i++[a]}
namespace PS
def Mi(S:PS)(b:Bal):PS:=(iX (cX b.a b.c) S.n).foldl (λT(q:Nat)=>T.MZ ⟨3,0,q,b.out,T.b,b.g,0,[],[],[]⟩) S
def Mj(S:PS)(b:Bal):PS:=(iX (cX b.a b.d) S.n).foldl (λT(q:Nat)=>T.MZ ⟨5,0,q,T.a.m,T.b,b.g,0,[],T.a.a,S.Mm S.a.a⟩) S
def MF(S:PS):PS:=S.L8.foldl (λT q=>T.ME q T.b ⟨S.a.m,S.a.a,S.Mm S.a.a⟩) S
def installIf(S:PS)(b:Bal):PS:=if S.Nj b.d then S.MF.install S.a.m S.a.a else S
def MA(S:PS)(b:Bal):PS:=
 if b.c=b.a&&S.Nj b.c then
  let c:={b with e:=false,d:=aO S.c}
  ({S with d:=some c,a:=b.b}.Mj c).installIf c
 else S
def M5(S:PS):PS:=
 let T:=S.Mx ((S.g/8+1)*8+S.c)
 let b:Bal:=Bal.f ⟨T.g,true,T.k,cX T.m T.k,0,0,[]⟩ S.c (T.Ml,T.a)
 ({T with d:=some b}.Mi b).MA b
def Mr(S:PS)(b:Bal):PS:=if b.e then S.Mi b else S.Mj b
def M4(S:PS):Bool:=decide (S.k≠0)&&decide (Ik (cX S.m S.k)=S.c)
def Nb(S:PS):Bool:=S.d.all λb=>decide (b.out≠S.k)
def Me(S:PS):PS:=if S.M4&&S.Nb&&decide (S.g<2147483640) then S.M5 else match S.d with
 |some b=>S.Mr b
 |none=>S
def MR(S:PS)(f:Frame):PS:=
 if f.a<S.g then S else
  let T:=(S.Mx f.a).suspect f.b
  T.MZ ⟨4,0,f.f,T.a.m,T.b,f.a,T.a.b,T.Ml,T.a.a,T.Mp⟩
def Mv(S:PS)(f:Frame):PS:=match S.d with
 |none=>S
 |some b=>if b.g=f.a&&b.e&&aV (cX b.a b.c) f.f.toNat then
  let c:=b.f f.f.toNat (f.g,⟨f.e,f.b,f.i⟩)
  {(S.My f.f.toNat f.g).Mc f.d with d:=some c}.MA c
   else S
def MK(S:PS)(f:Frame):PS:=
 if f.a<S.g then S else
  ({S.Mx f.a with a:=⟨f.a,f.b,f.i⟩}.Mc f.d).MZ ⟨6,0,f.f,0,S.b,f.a,0,[],[],[]⟩
def Mk(S:PS)(f:Frame):PS:=match S.d with
 |none=>S
 |some b=>if b.g=f.a&& !b.e&&aV b.a f.f.toNat then
  let c:={b with d:=j9 b.d (aO f.f.toNat)}
  {S with d:=some c}.installIf c
   else S
def M3(S:PS)(f:Frame):PS:=(S.Mc f.d).install f.b f.i
def MQ(S:PS)(f:Frame):PS:=
 let T:=(S.My f.f.toNat f.g).MX (f.d.headD ⟨0,0,[],⟨#[]⟩⟩)
 if T.h then T else T.MG
def ML(S:PS)(f:Frame):PS:=
 let T:=S.My f.f.toNat f.g
 if T.g<f.a then T.MH f.a else T
def L9(S:PS)(f:Frame):PS:=
 if f.c=1 then S.MQ f else if f.c=2 then S.ML f else if f.c=3 then S.MR f else if f.c=4 then S.Mv f else if f.c=5 then S.MK f else if f.c=6 then S.Mk f else if f.c=7 then S.M3 f else S
def MM(S:PS)(f:Frame):PS:=if f.c=7 then S else S.ME f.f.toNat f.h (S.i.getD f.h.toNat ⟨0,[],[]⟩)
def MW(S:PS)(f:Frame):PS:=if S.b<f.h then S else if f.h<S.b then S.MM f else if aV S.m f.f.toNat then S.L9 f else S
end PS
def dp(l:Υ)(n:Nat):Bool:=l.length==n||l.length==0
def dr(n:Nat)(m:Msg):Bool:=decide (m.a<n)&&m.c.length==n&&m.c.getD m.a.toNat 0==m.seq
def cH(f:Frame)(n:Nat):Bool:=
 if f.c=1 then f.g.length==n&&f.d.length==1 else if f.c=2 then f.g.length==n else if f.c=3||f.c=6 then f.a !=0
 else if f.c=4 then f.a !=0&&f.g.length==n&&(f.i.length==n||f.e==0) else if f.c=5 then f.a !=0&&f.i.length==n else if f.c=7 then f.i.length==n else false
def na(f:Frame)(p n:Nat):Bool:=
 f.j==p&&f.f !=p&&decide (f.f<n)&&cX f.b (2^n-1)==0&&dp f.g n&&dp f.i n&&f.d.all (dr n)&&cH f n
namespace PS
def Mn(S:PS)(s:List UInt8):PS:=if S.MC=0&&Codec.bM s&&na (Codec.bO s).1 S.c S.n then S.MW (Codec.bO s).1 else S
def tick(S:PS):PS:=if S.MC=0 then S.Me.L8.foldl (λT q=>if T.h then T.gossip q else (T.gossip q).Mz q) S.Me else S
def Nc(S:PS)(l:List (List UInt8)):PS:=(l.foldl Mn S).tick
def Mf(S:PS)(t:ByteArray):Int:=
 if S.MC≠0 then S.MC else if 16<t.size then 2 else if S.h then 8 else if 20<=S.Ml.getD S.c 0 then 9 else if S.r<=(S.o.filter λm=>m.a==(S.c:Int)).length then 10 else 0
def Ma(S:PS)(t:ByteArray):Msg:=⟨S.c,S.Ml.getD S.c 0+1,S.Ml.set S.c (S.Ml.getD S.c 0+1),t⟩
def put(l:List Msg)(m:Msg):List Msg:=if l.any (eA m.a m.seq) then l.map λx=>if eA m.a m.seq x then m else x else l++[m]
def MV(S:PS)(m:Msg):PS:=let T:=S.Ms m 1;({T with o:=put T.o m}).M1
def cast(S:PS)(t:ByteArray):PS:=if S.Mf t=0 then (S.MV (S.Ma t)).L8.foldl (λT q=>T.MN q (S.Ma t)) (S.MV (S.Ma t)) else S
def Mu(S:PS)(q:Nat):PS:=if q≠S.c/\S.MC=0 then S.suspect (aO q) else S
def crash(S:PS):PS:={S with f:=true}
def Ni(num n win:Nat):PS:=⟨num,n,win,false,false,false,0,2^n-1,0,0,⟨0,0,[]⟩,none,List.replicate n (List.replicate n 0),[],[],[],[]⟩
end PS
end Go.Proofs.Y.Md
end
namespace Go.Proofs.Y.Md
section
open Codec (Msg Frame)
variable {S T:PS}{k j:Nat}
structure MsgW(n:Nat)(m:Msg):Prop where
 s:∃s:Nat,s<n/\m.a=s
 t:m.c.length=n
 b:0<=m.seq
 a:m.seq<=20
def th(n:Nat)(r:Υ):Prop:=r.length=n/\∀x∈r,0<=x/\x<=20
def bj(s:Int):Prop:=0<=s/\s<64
def nD(b:Int):Prop:=0<=b/\b<2147483648
def fI(row:Υ):Nat:=(row.map λx=>(20-x).toNat).sum
structure lh(n:Nat)(v:Vote)(B:Bal):Prop where
 f:B.i≠[]
 c:∀a∈B.i,a.1.length=n/\0<=a.2.b/\(a.2.b≠0->a.2.a.length=n)/\bj a.2.m
 cut:B.e=false->v.a.length=n
 num:nD B.g
 out:bj B.out
 asked:bj B.a
 answ:bj B.c
 acc:bj B.d
 e:B.i.length<=ir B.c
def vh:Bool->Nat
 |true=>0
 |false=>1
structure Wf(S:PS):Prop where
 c:S.n<=6
 num:S.c<S.n
 a:S.q.length=S.n
 kn:∀r∈S.q,th S.n r
 ms:∀m∈S.o,MsgW S.n m
 view:0<=S.b/\S.b<=2147483648
 mem:bj S.m
 sus:bj S.k
 h:fK S.k S.m=S.k/\aV S.k S.c=false
 prom:nD S.g
 vote:0<=S.a.b/\(S.a.b≠0->S.a.a.length=S.n)/\bj S.a.m
 lead:∀B,S.d=some B->lh S.n S.a B
 left:S.b.toNat<=S.i.length/\(S.out=false->S.i.length=S.b.toNat)
 t:S.j.length+fI S.Ml+vh S.out<=122*(S.b.toNat+1)
def Wf.n0(h:Wf S):0<S.n:=Nat.lt_of_le_of_lt (Nat.zero_le _) h.num
def Wf.g(h:Wf S):th S.n S.Ml:=by
 have:S.c<S.q.length:=by rw[h.a];exact h.num
 have e:S.Ml=S.q[S.c]:=by simp[PS.Ml,this]
 rw[e];exact h.kn _ ς
def th.at{n:Nat}{r:Υ}(h:th n r){q:Nat}(a:q<n):0<=r.getD q 0/\r.getD q 0<=20:=by
 have:q<r.length:=by rw[h.1];exact a
 rw[show r.getD q 0=r[q] by grind];exact h.2 _ ς
def Wf.a7(h:Wf S):S.j.length<=300000000000:=by have b:=h.t;have a:=h.view;omega
structure Lq(S:PS):Prop where
 c:S.n<=6
 b:0<S.n
 a:S.q.length=S.n
 kn:∀r∈S.q,th S.n r
 view:0<=S.b/\S.b<=2147483648
 sus:bj S.k
 evs:S.j.length<=300000000000
def Wf.c0(h:Wf S):Lq S:=⟨h.c,h.n0,h.a,h.kn,h.view,h.sus,h.a7⟩
structure Sends(S T:PS)(k:Nat):Prop where
 e:T={S with e:=T.e}
 b:T.e.length<=S.e.length+k
def Sends.f(S:PS):Sends S S 0:=⟨rfl,Nat.le_refl _⟩
def Sends.g{U:PS}(h:Sends S T j)(g:Sends T U k):Sends S U (j+k):=by refine⟨?_,by have:=h.b;have:=g.b;omega⟩;have e:=g.e;rw[h.e]at e;exact e
def Sends.c(h:Sends S T j)(a:j<=k):Sends S T k:=⟨h.e,Nat.le_trans h.b ω⟩
def Sends.d(h:Sends S T k)(a:Wf S):Wf T:=by rw[h.e];exact⟨a.c,a.num,a.a,a.kn,a.ms,a.view,a.mem,a.sus,a.h,a.prom,a.vote,a.lead,a.left,a.t⟩
def ak(S:PS)(f:Frame):Sends S (S.MZ f) 1:=by unfold PS.MZ;split;exact⟨rfl,ς⟩;exact⟨rfl,ω⟩
def bK{c:Type}(g:PS->c->PS)(k:Nat)(b:∀T a,Sends T (g T a) k):∀(l:List c)(S:PS),Sends S (l.foldl g S) (l.length*k)
 |[],S=>by simpa using Sends.f S
 |a::l,S=>by have:=(b S a).g (bK g k b l _);rw[List.length_cons,Nat.add_mul,Nat.one_mul,Nat.add_comm _];exact this
end
section
open Codec (Msg Frame)
variable {S:PS}{r:Υ}{q n:Nat}{m:Msg}
def Wf.j(h:Wf S):Wf S.M1:=⟨h.c,h.num,h.a,h.kn,λm a=>h.ms m (List.mem_filter.1 a).1,h.view,h.mem,h.sus,h.h,h.prom,h.vote,h.lead,h.left,h.t⟩
def iW(a r:Υ):(dB a r).length=a.length:=by simp[dB]
def th.a{a:Υ}(h:th n a)(f:∀x∈r,0<=x/\x<=20):th n (dB a r):=by
 refine⟨by rw[iW];exact h.1,λx c=>?_⟩;obtain⟨s,b,rfl⟩:=List.mem_map.1 c;have b:=List.mem_range.1 b;have g:=h.2 a[s] ς;have e:0<=r.getD s 0/\r.getD s 0<=20:=by
  by_cases d:s<r.length
  .simp_all
  grind
 grind
def zX{b:Type}{l:List b}{i:Nat}{a x:b}(h:x∈l.set i a):x=a\/x∈l:=by grind
def Wf.a6(h:Wf S)(b:th S.n r)(c:q=S.c->S.j.length+fI r+vh S.out<=122*(S.b.toNat+1)):Wf {S with q:=S.q.set q r}:=by refine⟨h.c,h.num,by simpa using h.a,λx a=>(zX a).elim (λe=>e▸b) (h.kn x),h.ms,h.view,h.mem,h.sus,h.h,h.prom,h.vote,h.lead,h.left,?_⟩;show S.j.length+fI ((S.q.set q r).getD _ [])+vh _<=_;by_cases e:q=S.c;rw[show (S.q.set q r).getD _ []=r by simp[e,h.a,h.num]];grind;rw[show (S.q.set q r).getD _ []=S.Ml by simp[PS.Ml,List.getElem?_set_ne e]];exact h.t
def zZ:∀{r r':Υ},r.length=r'.length->(∀(i:Nat),r.getD i 0<=r'.getD i 0)->fI r'<=fI r
 |[],[],_,_=>Nat.le_refl _
 |x::r,y::r',c,h=>by
   have a:=zZ (r:=r) (r':=r') ν λi=>by simpa using h (i+1)
   have b:x<=y:=by simpa using h 0
   simp only[fI,List.map_cons,List.sum_cons]at a⊢;omega
def py(h:th n r):fI r<=20*n:=by
 obtain⟨d,a⟩:=h;subst d;induction r with
 |nil=>simp[fI]
 |cons x r c=>
  have e:=a x ς;have:=c λy b=>a y (List.mem_cons_of_mem _ b);simp only[fI,List.map_cons,List.sum_cons,List.length_cons]at this⊢;omega
def Wf.i(h:Wf S)(c:q<S.n)(f:∀x∈r,0<=x/\x<=20):Wf (S.My q r):=by
 have g:q<S.q.length:=by rw[h.a];exact c
 have e:S.q.getD q []=S.q[q]:=by simp[g]
 have a:th S.n (S.q.getD q []):=by rw[e];exact h.kn _ ς
 refine(h.a6 (a.a f) λd=>?_).j;have:fI (dB (S.q.getD q []) r)<=fI S.Ml:=by rw[d];refine zZ (iW _ _).symm λi=>?_;show S.Ml.getD i 0<=(dB S.Ml r).getD i 0;by_cases b:i<S.Ml.length;simp only[dB,List.getD_eq_getElem?_getD,List.getElem?_map,List.getElem?_range b,Option.map_some,Option.getD_some];omega;rw[show S.Ml.getD i 0=0 by simp[b],show (dB _ r).getD i 0=0 by simp[dB,b]];omega
 have:=h.t;omega
def Wf.x(h:Wf S)(b:MsgW S.n m):Wf (S.MX m):=by unfold PS.MX;split;exact h;refine⟨h.c,h.num,h.a,h.kn,λx a=>?_,h.view,h.mem,h.sus,h.h,h.prom,h.vote,h.lead,h.left,h.t⟩;rcases List.mem_append.1 a with a|a;exact h.ms x a;rw[List.mem_singleton]at a;subst a;exact b
def DD(m:Msg):(S.MX m).n=S.n:=by unfold PS.MX;grind
def Wf.f(h:Wf S){l:List Msg}(a:∀m∈l,MsgW S.n m):Wf (S.Mc l):=by
 induction l generalizing S with
 |nil=>exact h
 |cons m l b=>exact b (h.x (a m ς)) λx c=>by rw[DD];exact a x ν
def dy{a:Υ}(h:S.Mh a=some m):m∈S.o/\∃q,q<S.n/\m.a=(q:Int)/\m.seq=S.Ml.getD q 0+1/\aR a m=true/\Hk S.Ml m.c q=true:=by obtain⟨q,f,e⟩:=List.exists_of_findSome?_eq_some h;let⟨d,c⟩:=Option.filter_eq_some_iff.1 e;have b:=List.find?_some d;simp only[eA,Bool.and_eq_true,beq_iff_eq]at b c;grind
def ve:∀{r:Υ}{s:Nat}{x:Int},r[s]?=some x->x+1<=20->fI (r.set s (x+1))+1=fI r
 |y::r,0,x,h,a=>by simp only[List.getElem?_cons_zero,Option.some.injEq]at h;simp only[fI,List.set_cons_zero,List.map_cons,List.sum_cons];omega
 |y::r,s+1,x,h,a=>by have:=ve (r:=r) (s:=s) ν a;simp only[fI,List.set_cons_succ,List.map_cons,List.sum_cons]at this⊢;omega
def Wf.k(h:Wf S)(f:q<S.n)(j:m.a=(q:Int))(g:m.seq=S.Ml.getD q 0+1)(k:m.seq<=20)(a:Int):Wf (S.Ms m a)/\fI (S.Ms m a).Ml+1=fI S.Ml:=by
 have d:=h.g;have p:q<S.Ml.length:=by rw[d.1];exact f
 have s:=d.at f;have e:m.a.toNat=q:=by rw[j];rfl
 have l:=ve (r:=S.Ml) (s:=q) (x:=S.Ml.getD q 0) ν ω;have c:(S.Ms m a).Ml=S.Ml.set q (S.Ml.getD q 0+1):=by simp only[PS.Ms,PS.Ng,e,g];show (S.q.set _ _).getD _ []=_;simp[h.a,h.num]
 refine⟨?_,ν⟩;have b:=h.a6 (q:=S.c) (r:=S.Ml.set q (S.Ml.getD q 0+1)) ⟨by simpa using d.1,λx i=>(zX i).elim (λe=>by omega) (d.2 x)⟩ λ_=>by have:=h.t;omega
 have o:S.Ms m a=PS.Ng {S with q:=S.q.set S.c (S.Ml.set q (S.Ml.getD q 0+1))} ⟨a,S.b,m.a,m.seq,0,m.b⟩:=by simp only[PS.Ms,e,g]
 rw[o]at c⊢;refine⟨b.c,b.num,b.a,b.kn,b.ms,b.view,b.mem,b.sus,b.h,b.prom,b.vote,b.lead,b.left,?_⟩;rw[c];have:=h.t;simp only[PS.Ng,List.length_append,List.length_cons,List.length_nil]at this⊢;omega
def kG:∀(k:Nat)(S:PS)(a:Υ),Wf S->Wf (PS.Mt k S a)
 |0,_,_,h=>h
 |k+1,S,a,h=>by
   rw[PS.Mt];split;exact h;rename_i m f
   obtain⟨b,q,c,e,d,-⟩:=dy f;exact kG k _ a (h.k c e d (h.ms m b).a 2).1.j
def Wf.d(h:Wf S)(a:Υ):Wf (S.Mb a):=kG 121 S a h
end
section
open Codec (Msg Frame)
variable {S T U:PS}{x y m:Int}{q:Nat}
def bj.a(h:bj x):∃a:Nat,x=a/\a<2^6:=by obtain⟨a,rfl⟩:=Int.eq_ofNat_of_zero_le h.1;exact⟨a,rfl,by have:=h.2;omega⟩
def bT(a q:Nat):aV (a:Int) q=a.testBit q:=by unfold aV;grind
def DF(a c:Nat):fK a c=((a&&&c:Nat):Int):=rfl
def z6(a c:Nat):j9 a c=((a|||c:Nat):Int):=rfl
def DG(a c:Nat):cX a c=((a^^^(a&&&c):Nat):Int):=rfl
def bj.h{a:Nat}(h:a<2^6):bj (a:Int):=⟨ω,ω⟩
def bj.d(h:bj x):bj (fK x y):=by obtain⟨a,rfl,b⟩:=h.a;exact .h (Nat.lt_of_le_of_lt (Nat.and_le_left) b)
def bj.f(h:bj x)(k:bj y):bj (j9 x y):=by obtain⟨a,rfl,d⟩:=h.a;obtain⟨c,rfl,b⟩:=k.a;exact .h (Nat.or_lt_two_pow d b)
def bj.g(h:bj x):bj (cX x y):=by obtain⟨a,rfl,b⟩:=h.a;exact .h (Nat.xor_lt_two_pow b (Nat.lt_of_le_of_lt (Nat.and_le_left) b))
def bj.c(h:q<6):bj (aO q):=.h (Nat.pow_lt_pow_right ω h)
def gn(h:bj x)(k:bj y)(q:Nat):aV (fK x y) q=(aV x q&&aV y q):=by obtain⟨a,rfl,-⟩:=h.a;obtain⟨c,rfl,-⟩:=k.a;rw[DF,bT,bT,bT,Nat.testBit_and]
def tj(h:bj x)(k:bj y)(q:Nat):aV (j9 x y) q=(aV x q||aV y q):=by obtain⟨a,rfl,-⟩:=h.a;obtain⟨c,rfl,-⟩:=k.a;rw[z6,bT,bT,bT,Nat.testBit_or]
def lX(h:bj x)(k:bj y)(q:Nat):aV (cX x y) q=(aV x q&& !aV y q):=by obtain⟨a,rfl,-⟩:=h.a;obtain⟨c,rfl,-⟩:=k.a;rw[DG,bT,bT,bT,Nat.testBit_xor,Nat.testBit_and];grind
def u5(p q:Nat):aV (aO p) q=decide (p=q):=by unfold aO;rw[bT,Nat.testBit_two_pow]
def bj.e(h:bj x)(k:bj y)(e:∀q,aV x q=aV y q):x=y:=by obtain⟨a,rfl,-⟩:=h.a;obtain⟨c,rfl,-⟩:=k.a;congr 1;exact Nat.eq_of_testBit_eq λq=>by rw[<-bT,<-bT];exact e q
def zW(h:bj x)(b:aV x q=true):q<6:=by obtain⟨a,rfl,d⟩:=h.a;rw[bT]at b;refine Nat.lt_of_not_le λc=>?_;rw[Nat.testBit_lt_two_pow (Nat.lt_of_lt_of_le d (Nat.pow_le_pow_right ω c))]at b;cases b
def eX{n:Nat}:q∈iX x n↔q<n/\aV x q=true:=by simp[iX]
def DH(h:bj x){p:Nat}(b:aV x p=true)(a:aV x q=true)(f:p≠q):2<=ir x:=by
 unfold ir;have d:=eX.2 ⟨zW h b,b⟩;have c:=eX.2 ⟨zW h a,a⟩;match e:iX x 6 with
 |[]=>grind
 |[y]=>grind
 |_::_::_=>simp
def vg(h:q<6):ir (aO q)=1:=by
 match q,h with
 |0,_=>rfl
 |1,_=>rfl
 |2,_=>rfl
 |3,_=>rfl
 |4,_=>rfl
 |5,_=>rfl
def dh(S T:PS):Prop:=T={S with q:=T.q,o:=T.o,j:=T.j,e:=T.e}
def dh.e(S:PS):dh S S:=rfl
def dh.b(h:dh S T)(k:dh T U):dh S U:=by unfold dh at*;grind
def Sends.a{k:Nat}(h:Sends S T k):dh S T:=by have e:=h.e;unfold dh;rw[e]
def dq(S:PS)(q:Nat)(r:Υ):dh S (S.My q r):=rfl
def nc(S:PS)(m:Msg):dh S (S.MX m):=by unfold PS.MX;split<;>rfl
def bf(S:PS)(l:List Msg):dh S (S.Mc l):=by
 induction l generalizing S with
 |nil=>rfl
 |cons m l a=>exact(nc S m).b (a _)
def kH:∀(k:Nat)(S:PS)(a:Υ),dh S (PS.Mt k S a)
 |0,_,_=>rfl
 |k+1,S,a=>by rw[PS.Mt];split;rfl;exact dh.b (show dh S (S.Ms _ 2).M1 from rfl) (kH k _ a)
def eh(S:PS)(a:Υ):dh S (S.Mb a):=kH 121 S a
def dh.i(h:dh S T):T.c=S.c:=by rw[h]
def dh.n(h:dh S T):T.n=S.n:=by rw[h]
def dh.out(h:dh S T):T.out=S.out:=by rw[h]
def dh.a(h:dh S T):T.b=S.b:=by rw[h]
def dh.c(h:dh S T):T.a=S.a:=by rw[h]
def dh.f(h:dh S T):T.d=S.d:=by rw[h]
def dh.j(h:dh S T):T.m=S.m:=by rw[h]
def dh.h(h:dh S T):T.i=S.i:=by rw[h]
def dh.o(h:dh S T):T.k=S.k:=by rw[h]
def dh.l(h:dh S T):T.g=S.g:=by rw[h]
def dh.g(h:dh S T):T.h=S.h:=by rw[h]
def dh.d(h:dh S T):T.f=S.f:=by rw[h]
def Wf.suspect(h:Wf S){a:Int}(g:bj a):Wf (S.suspect a):=by have f:bj _:=.c (Nat.lt_of_lt_of_le h.num h.c);have d:bj (fK a S.m):=g.d;have c:bj (cX (fK a S.m) (aO S.c)):=d.g;have b:=h.sus.f c;refine⟨h.c,h.num,h.a,h.kn,h.ms,h.view,h.mem,b,⟨bj.e b.d b λq=>?_,?_⟩,h.prom,h.vote,h.lead,h.left,h.t⟩;show aV (fK (j9 _ _) S.m) q=aV (j9 _ _) q;have e:=congrArg (λs=>aV s q) h.h.1;simp only[gn h.sus h.mem]at e;rw[gn b h.mem,tj h.sus c,lX d f,gn g h.mem,<-e];grind;show aV (j9 _ _) S.c=false;rw[tj h.sus c,h.h.2,lX d f,u5];simp
def Wf.a0(h:Wf S){n:Int}(b:nD n):Wf (S.MH n):=by refine⟨h.c,h.num,h.a,h.kn,h.ms,h.view,h.mem,h.sus,h.h,b,h.vote,λB a=>h.lead B ?_,h.left,h.t⟩;have a:(if S.MY n then S.d else none)=some B:=a;grind
def Wf.s(h:Wf S){n:Int}(a:nD n):Wf (S.Mx n):=by have k:=h.a0 a;exact⟨k.c,k.num,k.a,k.kn,k.ms,k.view,k.mem,k.sus,k.h,k.prom,k.vote,k.lead,k.left,k.t⟩
def rF(n:Nat):fI (List.replicate n 0)=20*n:=by simp[fI,List.map_replicate,List.sum_replicate_nat];omega
def nD.a:nD 0:=⟨θ,θ⟩
def bj.b:bj 0:=⟨θ,θ⟩
def Wf.enter(h:Wf S)(n:S.out=false)(p:S.b<2147483648)(b:bj m)(a:Υ):Wf ((S.M6 m a).enter m):=by
 have i:=h.view.1;have e:(S.b+1).toNat=S.b.toNat+1:=ω;have k:((S.M6 m a).enter m).Ml=List.replicate S.Ml.length 0:=by
  have l:S.c<S.q.length:=by rw[h.a];exact h.num
  show (S.q.map _).getD S.c []=List.replicate (S.q.getD S.c []).length 0;simp[l]
 refine⟨h.c,h.num,by show (S.q.map _).length=_;rw[List.length_map];exact h.a,λr f=>?_,λx d=>(List.not_mem_nil d).elim,⟨by show 0<=S.b+1;omega,by show S.b+1<=_;omega⟩,b,h.sus.d,⟨bj.e h.sus.d.d h.sus.d λq=>?_,?_⟩,nD.a,⟨Int.le_refl _,λe=>(e rfl).elim,bj.b⟩,nofun,?_,?_⟩;obtain⟨g,c,rfl⟩:=List.mem_map.1 f;exact⟨by rw[List.length_replicate];exact(h.kn g c).1,λx d=>ν⟩;show aV (fK (fK S.k m) m) q=aV (fK S.k m) q;rw[gn h.sus.d b,gn h.sus b];simp;show aV (fK S.k m) S.c=false;rw[gn h.sus b,h.h.2,Bool.false_and];have:=h.left.2 n;show (S.b+1).toNat<=(S.i++[_]).length/\(_->(S.i++[_]).length=(S.b+1).toNat);grind;rw[k];show (S.j++[_]).length+fI _+vh S.out<=122*((S.b+1).toNat+1);have s:=h.t;have j:=h.g.1;have o:=h.c;rw[rF,j,e];grind
def Wf.b0(h:Wf S)(c:S.out=false)(m:Int)(a:Υ):Wf ((S.M6 m a).Na):=by refine⟨h.c,h.num,h.a,h.kn,h.ms,h.view,h.mem,h.sus,h.h,h.prom,h.vote,h.lead,⟨?_,nofun⟩,?_⟩;show S.b.toNat<=(S.i++[_]).length;have:=h.left.1;grind;show (S.j++[_]).length+fI S.Ml+0<=122*(S.b.toNat+1);have b:=h.t;rw[c]at b;simp only[List.length_append,List.length_cons,List.length_nil,vh]at b⊢;omega
def Wf.install(h:Wf S)(c:S.out=false)(e:S.b<2147483648)(d:bj m)(a:Υ):Wf (S.install m a):=by have k:=h.d a;have b:=eh S a;unfold PS.install;split;exact k.enter (b.out.trans c) (by rw[b.a];exact e) d a;exact k.b0 (b.out.trans c) m a
def Wf.v(h:Wf S)(m:Int)(a:Υ):Lq (S.M6 m a):=⟨h.c,h.n0,h.a,h.kn,h.view,h.sus,h.a7⟩
end
section
open Codec (Msg Frame)
variable {S T U:PS}{B:Bal}{n:Nat}{v:Vote}{x:Int}{t:ByteArray}
section
def Wf.e(h:Wf S){L:Option Bal}(c:0<=v.b/\(v.b≠0->v.a.length=S.n)/\bj v.m)(a:∀B,L=some B->lh S.n v B):Wf {S with a:=v,d:=L}:=
 ⟨h.c,h.num,h.a,h.kn,h.ms,h.view,h.mem,h.sus,h.h,h.prom,c,a,h.left,h.t⟩
def bA(S:PS)(b:Bal):∃k,Sends S (S.Mi b) k:=⟨_,bK _ 1 (λT _=>ak T _) _ S⟩
def bo(S:PS)(b:Bal):∃k,Sends S (S.Mj b) k:=⟨_,bK _ 1 (λT _=>ak T _) _ S⟩
def df(S:PS):∃k,Sends S S.MF k:=⟨_,bK _ 1 (λT _=>ak T _) _ S⟩
def Wf.installIf(h:Wf S)(b:S.out=false)(c:S.b<2147483648)(B:Bal):Wf (S.installIf B):=by unfold PS.installIf;split;let⟨k,a⟩:=df S;exact(a.d h).install (a.a.out.trans b) (by rw[a.a.a];exact c) h.vote.2.2 _;exact h
def xM(P:Vote->Prop)(b:P ⟨0,0,[]⟩)(h:∀a∈B.i,P a.2):P B.h:=by
 unfold Bal.h;generalize (⟨0,0,[]⟩:Vote)=v at b;revert h;induction B.i generalizing v with
 |nil=>intro _;exact b
 |cons a l c=>
  intro h;rw[List.foldl_cons];refine c _ ?_ λx d=>h x ν;split;exact h a ς;exact b
def lW(h:∀a∈B.i,a.1.length=n)(f:B.i≠[]):B.j.length=n:=by
 unfold Bal.j;have b:((B.i.headD ([],⟨0,0,[]⟩)).1).length=n:=by
  match e:B.i with
  |[]=>grind
  |a::l=>grind
 generalize (B.i.headD _).1=c at b;induction B.i generalizing c with
 |nil=>exact b
 |cons a l d=>exact d _ (by rw[iW];exact b)
def lh.d(h:lh n v B):0<=B.b.b/\B.b.a.length=n/\bj B.b.m:=by
 have d:=xM (λv=>0<=v.b/\(v.b≠0->v.a.length=n)/\bj v.m) ⟨Int.le_refl _,λe=>(e rfl).elim,bj.b⟩ λa c=>(h.c a c).2;unfold Bal.b;split;exact⟨h.num.1,lW (λa c=>(h.c a c).1) h.f,h.asked⟩;rename_i e
 exact⟨h.num.1,d.2.1 e,d.2.2⟩
def Wf.b5(h:Wf S):bj (aO S.c):=.c (Nat.lt_of_lt_of_le h.num h.c)
def Wf.a5(h:Wf S)(a:lh S.n S.a B):Wf {S with d:=some {B with e:=false,d:=aO S.c},a:=B.b}:=by have b:=a.d;refine h.e ⟨b.1,λ_=>b.2.1,b.2.2⟩ ?_;intro c e;cases e;exact⟨a.f,a.c,λ_=>b.2.1,a.num,a.out,a.asked,a.answ,h.b5,a.e⟩
def Wf.b4(h:Wf S)(c:S.out=false)(d:S.b<2147483648)(b:lh S.n S.a B):Wf (S.MA B):=by unfold PS.MA;split;obtain⟨k,a⟩:=bo _ _;exact(a.d (h.a5 b)).installIf (a.a.out.trans c) (by rw[a.a.a];exact d) _;exact h
def pB(q:Nat):j9 0 (aO q)=aO q:=by show j9 ((0:Nat)) ((2^q:Nat))=_;rw[z6,Nat.zero_or];rfl
def FO{q:Nat}(h:Ik x=q)(a:q<6):aV x q=true:=by
 unfold Ik at h;match e:iX x 6 with
 |[]=>grind
 |y::l=>
  rw[e]at h;subst h;exact(eX.1 (ν:y∈iX x 6)).2
def Wf.b7(h:Wf S)(b:S.M4=true):(decide (aO S.c=cX S.m S.k)&&S.Nj (aO S.c))=false:=by
 unfold PS.M4 at b;simp at b;let⟨i,j⟩:=b;have c:=Nat.lt_of_lt_of_le h.num h.c;have d:=FO j c;rw[lX h.mem h.sus,Bool.and_eq_true]at d;have:∃q,aV S.k q=true:=by
  refine Classical.byContradiction λl=>i (bj.e h.sus bj.b λq=>?_);have g:aV 0 q=false:=by rw[show 0=((0:Nat):Int) from rfl,bT,Nat.zero_testBit]
  rw[g];exact ν
 let⟨q,f⟩:=this;have a:aV S.m q=true:=by have e:=congrArg (λs=>aV s q) h.h.1;simp only[gn h.sus h.mem,f,Bool.true_and]at e;exact e
 have k:S.c≠q:=λe=>ν;have m:=DH h.mem d.1 a k;have:S.Nj (aO S.c)=false:=by unfold PS.Nj;rw[vg c];simp;omega
 grind
def PS.p(S:PS):Bal:=Bal.f ⟨(S.g/8+1)*8+S.c,true,S.k,cX S.m S.k,0,0,[]⟩ S.c (S.Ml,S.a)
def PS.l(S:PS):PS:={S.Mx ((S.g/8+1)*8+S.c)with d:=some S.p}
def Wf.p(h:Wf S)(d:S.g<2147483640):nD ((S.g/8+1)*8+S.c):=by have c:=h.prom;have b:=h.num;have a:=h.c;unfold nD at*;omega
def Wf.b1(h:Wf S)(c:S.g<2147483640):lh S.n S.a S.p:=by refine⟨by simp[PS.p,Bal.f],λa b=>?_,nofun,h.p c,h.sus,h.mem.g,bj.b.f h.b5,bj.b,?_⟩;simp only[PS.p,Bal.f,List.nil_append,List.mem_singleton]at b;subst b;exact⟨h.g.1,h.vote⟩;show 1<=ir (j9 0 _);rw[pB,vg (Nat.lt_of_lt_of_le h.num h.c)];omega
def Wf.y(h:Wf S)(a:S.g<2147483640):Wf S.l:=by exact(h.s (h.p a)).e h.vote λB e=>by cases e;exact h.b1 a
def u2(h:Wf S)(c:S.M4=true):S.M5=S.l.Mi S.p:=by
 obtain⟨k,b⟩:=bA _ _;have e:S.M5=(S.l.Mi S.p).MA S.p:=rfl;rw[e];unfold PS.MA;rw[if_neg];have d:(S.l.Mi S.p).Nj S.p.c=S.Nj (aO S.c):=by unfold PS.Nj;rw[b.a.j];have:S.p.c=aO _:=pB _;rw[this];rfl
 have a:S.p.c=aO _:=pB _;rw[d,show S.p.a=cX _ _ from rfl,a,(h.b7 c)];nofun
def Wf.b8(h:Wf S)(b:S.M4=true)(c:S.g<2147483640):Wf S.M5:=by rw[u2 h b];obtain⟨k,a⟩:=bA _ _;exact a.d (h.y c)
def Wf.l(h:Wf S):Wf S.Me:=by
 unfold PS.Me;split
 .rename_i e
  simp at e;exact h.b8 e.1.1 e.2
 split;unfold PS.Mr;split;obtain⟨k,a⟩:=bA S _;exact a.d h;obtain⟨k,a⟩:=bo S _;exact a.d h;exact h
structure FrW(n:Nat)(f:Frame):Prop where
 src:∃q:Nat,q<n/\f.f=q
 members:bj f.b
 view:0<=f.h/\f.h<2147483648
 ballot:nD f.a
 voted:0<=f.e
 row:∀x∈f.g,0<=x/\x<=20
 cut:∀x∈f.i,0<=x/\x<=20
 msgs:∀m∈f.d,MsgW n m
 d:f.d.length<=200
 c:cH f n=true
def LB{f:Frame}{p:Nat}(a:Codec.dg f=true)(c:na f p n=true):FrW n f:=by simp only[Codec.dg,Codec.dk,Codec.bS,Codec.aA,Codec.cd,Codec.aK,Bool.and_eq_true,Codec.de,List.all_eq_true,decide_eq_true_eq]at a;simp only[na,dr,Bool.and_eq_true,List.all_eq_true,decide_eq_true_eq,beq_iff_eq]at c;obtain⟨⟨⟨⟨⟨⟨⟨-,z⟩,-⟩,u⟩,⟨⟨w,y⟩,q⟩⟩,-,k⟩,-,j⟩,e,d⟩:=a;obtain⟨⟨⟨⟨⟨⟨-,o⟩,-⟩,-⟩,-⟩,i⟩,h⟩:=c;refine⟨⟨f.f.toNat,ω,ω⟩,⟨ω,ω⟩,⟨ω,ω⟩,⟨ω,ω⟩,ω,k,j,λm b=>?_,e,h⟩;obtain⟨⟨⟨s,r⟩,-⟩,-⟩:=d m b;obtain⟨⟨l,g⟩,-⟩:=i m b;exact⟨⟨m.a.toNat,ω,ω⟩,g,ω,ω⟩
variable {f:Frame}
def FrW.q(h:FrW S.n f):f.f.toNat<S.n:=by let⟨q,a,e⟩:=h.src;omega
def Wf.a3(h:Wf S)(a:FrW S.n f):Wf (S.MR f):=by unfold PS.MR;split;exact h;exact(ak _ _).d ((h.s a.ballot).suspect a.members)
def FrW.b(h:FrW S.n f)(a:f.c=4):f.a≠0/\f.g.length=S.n/\(f.e≠0->f.i.length=S.n):=by have:=h.c;unfold cH at this;grind
def FrW.a(h:FrW S.n f)(a:f.c=5):f.a≠0/\f.i.length=S.n:=by have:=h.c;unfold cH at this;grind
def FrW.install(h:FrW S.n f)(a:f.c=7):f.i.length=S.n:=by have:=h.c;unfold cH at this;grind
def FrW.data(h:FrW S.n f)(c:f.c=1):f.g.length=S.n/\∃m,f.d=[m]/\MsgW S.n m:=by
 have:=h.c;unfold cH at this;simp[c]at this;let⟨b,a⟩:=this;match e:f.d,a with
 |[m],_=>exact⟨b,m,rfl,h.msgs m ν⟩
def FrW.gossip(h:FrW S.n f)(a:f.c=2):f.g.length=S.n:=by have:=h.c;unfold cH at this;grind
def pz(x:Int):ir x=(if aV x 0 then 1 else 0)+(if aV x 1 then 1 else 0)+(if aV x 2 then 1 else 0)+(if aV x 3 then 1 else 0)+(if aV x 4 then 1 else 0)+(if aV x 5 then 1 else 0):=by unfold ir iX;rw[<-List.countP_eq_length_filter,show List.range 6=[0,1,2,3,4,5] from rfl];grind
def Bz(h:bj x){q:Nat}(a:q<6)(b:aV x q=false):ir (j9 x (aO q))=ir x+1:=by
 have e:∀i,aV _ i=(aV x i||decide _):=λi=>by rw[tj h (.c a),u5]
 rw[pz,pz];simp only[e];match q,a with
 |0,_|1,_|2,_|3,_|4,_|5,_=>grind
def lh.g(h:lh n v B){q:Nat}(d:q<6)(c:aV B.c q=false){a:Υ×Vote}(e:a.1.length=n/\0<=a.2.b/\(a.2.b≠0->a.2.a.length=n)/\bj a.2.m):lh n v (B.f q a):=by refine⟨by simp[Bal.f],λx b=>?_,h.cut,h.num,h.out,h.asked,h.answ.f (.c d),h.acc,?_⟩;rcases List.mem_append.1 b with b|b;exact h.c x b;grind;show (B.i++[a]).length<=ir (j9 _ _);rw[Bz h.answ d c,List.length_append];have:=h.e;grind
def mY(b:bj B.a)(a:bj B.c){q:Nat}(c:aV (cX B.a B.c) q=true):aV B.c q=false:=by rw[lX b a]at c;grind
def Wf.a4(h:Wf S)(p:S.out=false)(m:S.b<2147483648)(a:FrW S.n f)(k:f.c=4):Wf (S.Mv f):=by
 unfold PS.Mv;split;exact h;rename_i B c
 split
 .rename_i d
  have g:=a.q;have j:=(h.i g a.row).f a.msgs;have b:=(dq S f.f.toNat f.g).b (bf _ f.d);have i:lh S.n _ (B.f f.f.toNat (f.g,⟨f.e,f.b,f.i⟩)):=(h.lead B c).g (Nat.lt_of_lt_of_le g h.c) (mY (h.lead B c).asked (h.lead B c).answ ((Bool.and_eq_true_iff.1 d).2)) ⟨(a.b k).2.1,a.voted,(a.b k).2.2,a.members⟩;have o:Wf {(S.My f.f.toNat f.g).Mc f.d with d:=some (B.f f.f.toNat _)}:=j.e j.vote λr e=>by cases e;rw[b.n,b.c];exact i
  refine o.b4 (b.out.trans p) (Int.lt_of_le_of_lt (Int.le_of_eq b.a) m) ?_;rw[b.n,b.c];exact i
 exact h
def Wf.a1(h:Wf S)(a:FrW S.n f)(c:f.c=5):Wf (S.MK f):=by
 unfold PS.MK;split;exact h;have b:=h.s a.ballot;have d:=b.e (v:=⟨_,_,_⟩) ⟨a.ballot.1,λ_=>(a.a c).2,a.members⟩ λB e=>by have k:=b.lead B e;exact⟨k.f,k.c,λ_=>(a.a c).2,k.num,k.out,k.asked,k.answ,k.acc,k.e⟩
 exact(ak _ _).d (d.f a.msgs)
def Wf.w(h:Wf S)(d:S.out=false)(g:S.b<2147483648)(c:FrW S.n f):Wf (S.Mk f):=by
 unfold PS.Mk;split;exact h;rename_i B b
 split
 .have k:=h.lead B b;have a:Wf {S with d:=some {B with d:=j9 B.d (aO f.f.toNat)}}:=h.e h.vote λi e=>by cases e;exact⟨k.f,k.c,k.cut,k.num,k.out,k.asked,k.answ,k.acc.f (.c (Nat.lt_of_lt_of_le c.q h.c)),k.e⟩
  exact a.installIf d g _
 exact h
def Wf.z(h:Wf S)(c:S.out=false)(d:S.b<2147483648)(b:FrW S.n f):Wf (S.M3 f):=by have a:=bf S f.d;exact(h.f b.msgs).install (a.out.trans c) (Int.lt_of_le_of_lt (Int.le_of_eq a.a) d) b.members _
def Wf.a9(h:Wf S)(a:FrW S.n f)(e:f.c=1):Wf (S.MQ f):=by
 obtain⟨-,m,g,c⟩:=a.data e;unfold PS.MQ;rw[g];have b:∀T:PS,Wf T->Wf (if T.h then T else T.MG):=λT h=>by split;exact h;exact h.d _
 exact b _ ((h.i a.q a.row).x c)
def Wf.a2(h:Wf S)(a:FrW S.n f):Wf (S.ML f):=by have b:=h.i a.q a.row;unfold PS.ML;simp only;split;exact b.a0 a.ballot;exact b
def Wf.b3(h:Wf S)(b:S.out=false)(a:FrW S.n f):Wf (S.MW f):=by
 unfold PS.MW;split;exact h;split;unfold PS.MM;split;exact h;exact(ak _ _).d h;split
 .have c:S.b<2147483648:=by have:=a.view.2;omega
  unfold PS.L9;split;exact h.a9 a ‹_›;split;exact h.a2 a;split;exact h.a3 a;split;exact h.a4 b c a ‹_›;split;exact h.a1 a ‹_›;split;exact h.w b c a;split;exact h.z b c a;exact h
 exact h
def Wf.o(h:Wf S)(s:List UInt8):Wf (S.Mn s):=by
 unfold PS.Mn;split
 .rename_i e
  simp only[Bool.and_eq_true,decide_eq_true_eq,Codec.bM]at e;refine h.b3 ?_ (LB e.1.2.1 e.2);have:=e.1.1;unfold PS.MC at this;grind
 exact h
def ei(S:PS)(q:Nat):∃k,Sends S (S.Mz q) k:=⟨_,bK _ 1 (λT m=>by split;exact ak T _;exact(Sends.f T).c ω) _ S⟩
def Wf.q{c:Type}{g:PS->c->PS}(b:∀T a,Wf T->Wf (g T a)):∀(l:List c)(S:PS),Wf S->Wf (l.foldl g S)
 |[],_,h=>h
 |a::l,S,h=>Wf.q b l _ (b S a h)
def Wf.tick(h:Wf S):Wf S.tick:=by unfold PS.tick;split;refine Wf.q (λT q a=>?_) _ _ h.l;split;exact(ak _ _).d a;obtain⟨k,b⟩:=ei _ q;exact b.d ((ak _ _).d a);exact h
def Wf.b6(h:Wf S)(l:List (List UInt8)):Wf (S.Nc l):=(Wf.q (λ_ s a=>Wf.o a s) l S h).tick
def Wf.a8(h:Wf S){q:Nat}(a:q<6):Wf (S.Mu q):=by unfold PS.Mu;split;exact h.suspect (.c a);exact h
def Wf.crash(h:Wf S):Wf S.crash:=⟨h.c,h.num,h.a,h.kn,h.ms,h.view,h.mem,h.sus,h.h,h.prom,h.vote,h.lead,h.left,h.t⟩
def tq(a:S.Mf t=0):S.MC=0/\S.h=false/\S.Ml.getD S.c 0<20/\t.size<=16/\(S.o.filter λm=>m.a==(S.c:Int)).length<S.r:=by unfold PS.Mf at a;grind
def Wf.u(h:Wf S)(t:ByteArray)(a:S.Ml.getD S.c 0<20):MsgW S.n (S.Ma t):=
 ⟨⟨_,h.num,rfl⟩,by simp[PS.Ma,h.g.1],by have:=(h.g.at h.num).1;show 0<=S.Ml.getD _ 0+1;omega,by show S.Ml.getD _ 0+1<=20;omega⟩
def Wf.b9(h:Wf S)(d:S.Ml.getD S.c 0<20):Wf (S.MV (S.Ma t)):=by
 have a:=(h.k (m:=S.Ma t) h.num rfl rfl (by show S.Ml.getD _ 0+1<=20;omega) 1).1;have e:Wf {S.Ms (S.Ma t) 1 with o:=PS.put (S.Ms (S.Ma t) 1).o (S.Ma t)}:=by refine⟨a.c,a.num,a.a,a.kn,λm c=>?_,a.view,a.mem,a.sus,a.h,a.prom,a.vote,a.lead,a.left,a.t⟩;unfold PS.put at c;split at c;obtain⟨x,b,rfl⟩:=List.mem_map.1 c;split;exact h.u t d;exact h.ms x b;rcases List.mem_append.1 c with b|b;exact h.ms m b;rw[List.mem_singleton]at b;subst b;exact h.u t d
 exact e.j
def Wf.cast(h:Wf S)(t:ByteArray):Wf (S.cast t):=by unfold PS.cast;split;refine Wf.q (λT q a=>(ak T _).d a) _ _ (h.b9 (tq ‹_›).2.2.1);exact h
def DK{a b:Nat}(g:n<=6)(d:a<n):Wf (PS.Ni a n b):=by
 have c:(PS.Ni a n b).Ml=List.replicate n 0:=by show (List.replicate n _).getD a []=_;simp[d]
 refine⟨g,d,List.length_replicate,λr c=>?_,nofun,⟨Int.le_refl _,by show 0<=2147483648;decide⟩,?_,bj.b,⟨?_,?_⟩,nD.a,⟨Int.le_refl _,λe=>(e rfl).elim,bj.b⟩,nofun,⟨Nat.le_refl _,λ_=>rfl⟩,?_⟩;rw[(List.mem_replicate.1 c).2];exact⟨List.length_replicate,λx h=>ν⟩
 .show bj (2^n-1);match n,g with
  |0,_|1,_|2,_|3,_|4,_|5,_|6,_=>exact⟨θ,θ⟩
 show fK 0 _=0;unfold fK;simp;show aV 0 a=false;rw[show 0=((0:Nat):Int) from rfl,bT,Nat.zero_testBit];rw[c,rF];show 0+20*n+1<=122*1;omega
end
variable {f:Frame}
structure mI(S T:PS):Prop where
 num:T.c=S.c
 n:T.n=S.n
 win:T.r=S.r
 crashed:T.f=S.f
def mI.b(S:PS):mI S S:=⟨rfl,rfl,rfl,rfl⟩
def mI.a(h:mI S T)(k:mI T U):mI S U:=⟨k.num.trans h.num,k.n.trans h.n,k.win.trans h.win,k.crashed.trans h.crashed⟩
def dh.k(h:dh S T):T.r=S.r:=by rw[h]
def dh.one(h:dh S T):mI S T:=⟨h.i,h.n,h.k,h.d⟩
def Sends.one{k:Nat}(h:Sends S T k):mI S T:=h.a.one
def nH(S:PS)(m:Int)(a:Υ):mI S (S.install m a):=by have k:=(eh S a).one;unfold PS.install;split;exact k.a ⟨rfl,rfl,rfl,rfl⟩;exact k.a ⟨rfl,rfl,rfl,rfl⟩
def kI(S:PS)(B:Bal):mI S (S.installIf B):=by unfold PS.installIf;split;let⟨k,a⟩:=df S;exact a.one.a (nH _ _ _);exact mI.b S
def pw(S:PS)(B:Bal):mI S (S.MA B):=by unfold PS.MA;split;obtain⟨k,a⟩:=bo _ _;exact mI.a (T:={S with d:=some _,a:=B.b}) ⟨rfl,rfl,rfl,rfl⟩ (a.one.a (kI _ _));exact mI.b S
def By(S:PS):mI S S.M5:=by obtain⟨k,a⟩:=bA _ _;have e:S.M5=(S.l.Mi _).MA _:=rfl;rw[e];exact mI.a (T:=S.l) ⟨rfl,rfl,rfl,rfl⟩ (a.one.a (pw _ _))
def gr(S:PS):mI S S.Me:=by unfold PS.Me;split;exact By S;split;unfold PS.Mr;split;exact(bA S _).elim λ_ h=>h.one;exact(bo S _).elim λ_ h=>h.one;exact mI.b S
def bX{P:Prop}[Decidable P](h:mI S T)(k:mI S U):mI S (if P then T else U):=by split;exact h;exact k
def xN(S:PS)(f:Frame):mI S (S.MW f):=by refine bX (mI.b S) (bX ?_ (bX ?_ (mI.b S)));exact bX (mI.b S) (ak _ _).one;refine bX ?_ (bX ?_ (bX ?_ (bX ?_ (bX ?_ (bX ?_ (bX ?_ (mI.b S)))))));have b:∀T:PS,mI S T->mI S (if T.h then T else T.MG):=λT h=>bX h (h.a (eh T _).one);exact b _ ((dq S _ _).one.a (nc _ _).one);have b:∀T:PS,mI S T->mI S (if T.g<f.a then T.MH f.a else T):=λT h=>bX (h.a ⟨rfl,rfl,rfl,rfl⟩) h;exact b _ (dq S _ _).one;exact bX (mI.b S) (mI.a (T:=(S.Mx f.a).suspect f.b) ⟨rfl,rfl,rfl,rfl⟩ (ak _ _).one);unfold PS.Mv;split;exact mI.b S;refine bX ?_ (mI.b S);have a:=(dq S f.f.toNat f.g).one.a (bf _ f.d).one;refine mI.a ?_ (pw _ _);exact⟨a.num,a.n,a.win,a.crashed⟩;refine bX (mI.b S) (mI.a (T:={S.Mx f.a with a:=⟨f.a,f.b,f.i⟩}) ⟨rfl,rfl,rfl,rfl⟩ ((bf _ f.d).one.a (ak _ _).one));unfold PS.Mk;split;exact mI.b S;refine bX ?_ (mI.b S);refine mI.a ?_ (kI _ _);exact⟨rfl,rfl,rfl,rfl⟩;exact(bf S _).one.a (nH _ _ _)
def gq(S:PS)(s:List UInt8):mI S (S.Mn s):=by unfold PS.Mn;exact bX (xN S _) (mI.b S)
def iD{c:Type}{g:PS->c->PS}(b:∀T a,mI T (g T a)):∀(l:List c)(S:PS),mI S (l.foldl g S)
 |[],S=>mI.b S
 |a::l,S=>(b S a).a (iD b l _)
def pt(S:PS):mI S S.tick:=by refine bX ((gr S).a (iD (λT q=>?_) _ _)) (mI.b S);refine bX (ak _ _).one ?_;obtain⟨k,a⟩:=ei _ q;exact(ak _ _).one.a a.one
def vd(S:PS)(l:List (List UInt8)):mI S (S.Nc l):=(iD gq l S).a (pt _)
def lY(S:PS)(t:ByteArray):mI S (S.cast t):=by unfold PS.cast;exact bX (mI.a (T:=S.MV (S.Ma t)) ⟨rfl,rfl,rfl,rfl⟩ (iD (λT q=>(ak T _).one) _ _)) (mI.b S)
def lZ(S:PS)(q:Nat):mI S (S.Mu q):=by unfold PS.Mu;exact bX ⟨rfl,rfl,rfl,rfl⟩ (mI.b S)
variable {m a b:Msg}
def iC:jl a b=true↔a.a<b.a\/(a.a=b.a/\a.seq<=b.seq):=by simp[jl]
def u9(a b:Msg):jl a b=true\/jl b a=true:=by rw[iC,iC];omega
def va{c:Msg}(h:jl a b=true)(k:jl b c=true):jl a c=true:=by rw[iC]at*;omega
def pq(m:Msg):∀l,(Ke m l).Perm (m::l)
 |[]=>List.Perm.refl _
 |x::l=>by unfold Ke;split;exact List.Perm.refl _;exact((pq m l).cons x).trans (List.Perm.swap m x l)
def gu:∀l,(z7 l).Perm l
 |[]=>List.Perm.refl _
 |m::l=>(pq m _).trans ((gu l).cons m)
def pr:∀{l:List Msg},l.Pairwise (λa b=>jl a b=true)->(Ke m l).Pairwise λa b=>jl a b=true
 |[],_=>List.pairwise_singleton _ _
 |x::l,h=>by
   rw[List.pairwise_cons]at h;unfold Ke;split
   .rename_i d
    refine List.pairwise_cons.2 ⟨λy c=>?_,List.pairwise_cons.2 h⟩;rcases List.mem_cons.1 c with rfl|c;exact d;exact va d (h.1 y c)
   rename_i d
   refine List.pairwise_cons.2 ⟨λy c=>?_,pr h.2⟩;rcases List.mem_cons.1 ((pq m l).mem_iff.1 c)with rfl|c;exact(u9 x y).resolve_right d;grind
def ma:∀l,(z7 l).Pairwise λa b=>jl a b=true
 |[]=>List.Pairwise.nil
 |_::l=>pr (ma l)
def DI{l c:List Msg}(d:c.Perm l)(i:c.Pairwise λa b=>jl a b=true)(h:∀a∈l,∀b∈l,a.a=b.a->a.seq=b.seq->a=b):c=z7 l:=by refine List.Perm.eq_of_pairwise (λa b j g f e=>?_) i (ma l) (d.trans (gu l).symm);rw[iC]at f e;exact h a (d.mem_iff.1 j) b ((gu l).mem_iff.1 g) ω ω
def lq:m∈S.Mp↔m∈S.o:=(gu S.o).mem_iff
def ll:S.Mp.length=S.o.length:=(gu S.o).length_eq
def jK{c:Υ}(h:m∈S.Mm c):m∈S.o:=lq.1 (List.mem_filter.1 h).1
end
section
open Codec (Msg Frame)
variable {S T U:PS}{f:Frame}{k j:Nat}
def cS(S T:PS)(k:Nat):Prop:=T.e.length<=S.e.length+k
def cS.a(S:PS)(k:Nat):cS S S k:=Nat.le_add_right _ _
def cS.c(h:cS S T j)(g:cS T U k):cS S U (j+k):=by unfold cS at*;omega
def cS.b(h:cS S T j)(a:j<=k):cS S T k:=by unfold cS at*;omega
def cS.d(h:T.e=S.e):cS S T k:=by unfold cS;grind
def Sends.h(h:Sends S T k):cS S T k:=h.b
def bt{P:Prop}[Decidable P](h:cS S T k)(g:cS S U k):cS S (if P then T else U) k:=by split;exact h;exact g
def tz(a:Int)(n:Nat):(iX a n).length<=n:=Nat.le_trans (List.length_filter_le _ _) ς
def fS{g:PS->Nat->PS}(a:∀T q,Sends T (g T q) 1){set:Int}{n:Nat}(b:n<=6)(S:PS):cS S ((iX set n).foldl g S) 6:=
 (bK g 1 a _ S).h.b (by have:=tz set n;omega)
def u6(S:PS)(m:Msg):(S.MX m).e=S.e:=by unfold PS.MX;grind
def jL(S:PS)(l:List Msg):(S.Mc l).e=S.e:=by
 induction l generalizing S with
 |nil=>rfl
 |cons m l a=>exact(a _).trans (u6 S m)
def lV:∀(k:Nat)(S:PS)(a:Υ),(PS.Mt k S a).e=S.e
 |0,_,_=>rfl
 |k+1,S,a=>by unfold PS.Mt;split;rfl;exact(lV k _ a).trans rfl
def jH(S:PS)(a:Υ):(S.Mb a).e=S.e:=lV _ S a
def qt6(S:PS)(m:Int)(a:Υ):(S.install m a).e=S.e:=by unfold PS.install;split;exact jH S a;exact jH S a
def jF(a:S.n<=6)(B:Bal):cS S (S.installIf B) 6:=by refine bt ?_ (cS.a S _);exact(fS (λT q=>ak T _) a S).c (k:=0) (cS.d (qt6 _ _ _))
def nF(a:S.n<=6)(B:Bal):cS S (S.MA B) 12:=by refine bt ?_ (cS.a S _);have b:cS _ ({S with d:=some {B with e:=false,d:=aO S.c},a:=B.b}.Mj {B with e:=false,d:=aO S.c}) 6:=fS (λT q=>ak T _) a _;obtain⟨k,c⟩:=bo _ _;exact b.c (jF (by rw[c.a.n];exact a) _)
def xK(a:S.n<=6):cS S S.M5 18:=by have b:cS _ (S.l.Mi S.p) 6:=fS (λT q=>ak T _) a _;obtain⟨k,c⟩:=bA _ _;exact b.c (nF (by rw[c.a.n];exact a) _)
def ft(a:S.n<=6):cS S S.Me 18:=by refine bt (xK a) ?_;split;exact bt ((fS (λT q=>ak T _) a S).b ω) ((fS (λT q=>ak T _) a S).b ω);exact cS.a S _
def uZ(d:S.n<=6):cS S (S.MW f) 12:=by
 refine bt (cS.a S _) (bt ?_ (bt ?_ (cS.a S _)));exact bt (cS.a S _) ((ak S _).h.b ω);refine bt ?_ (bt ?_ (bt ?_ (bt ?_ (bt ?_ (bt ?_ (bt ?_ (cS.a S _)))))));have b:∀T:PS,T.e=S.e->cS S (if T.h then T else T.MG) 12:=λT h=>bt (.d h) (.d ((jH T _).trans h));exact b _ (u6 _ _);have b:∀T:PS,T.e=S.e->cS S (if T.g<f.a then T.MH f.a else T) 12:=λT h=>bt (.d h) (.d h);exact b _ rfl;exact bt (cS.a S _) (cS.b (ak _ _).b ω)
 .unfold PS.Mv;split;exact cS.a S _;refine bt ?_ (cS.a S _);rename_i B _
  have e:=(dq S f.f.toNat f.g).b (bf _ f.d);have c:((S.My f.f.toNat f.g).Mc f.d).e=S.e:=jL _ _;have a:=nF (S:={(S.My f.f.toNat f.g).Mc _ with d:=some (B.f f.f.toNat (f.g,⟨f.e,f.b,f.i⟩))}) (by rw[e.n];exact d) (B.f f.f.toNat (f.g,⟨f.e,f.b,f.i⟩));unfold cS at a⊢;grind
 refine bt (cS.a S _) ?_;have c:({S.Mx f.a with a:=⟨f.a,f.b,f.i⟩}.Mc f.d).e=S.e:=jL _ _;have a:=(ak ({S.Mx f.a with a:=⟨f.a,f.b,f.i⟩}.Mc f.d) ⟨6,0,f.f,0,S.b,f.a,0,[],[],[]⟩).b;rw[c]at a;exact cS.b a ω
 .unfold PS.Mk;split;exact cS.a S _;refine bt ?_ (cS.a S _);rename_i B _
  have a:=jF (S:={S with d:=some {B with d:=j9 B.d (aO f.f.toNat)}}) d {B with d:=j9 B.d (aO f.f.toNat)};exact cS.b a ω
 exact .d ((qt6 _ _ _).trans (jL S f.d))
def nE(a:S.n<=6)(s:List UInt8):cS S (S.Mn s) 12:=by unfold PS.Mn;exact bt (uZ a) (cS.a S _)
def fH:∀(l:List (List UInt8))(S:PS),S.n<=6->cS S (l.foldl PS.Mn S) (12*l.length)
 |[],S,_=>cS.a S _
 |s::l,S,a=>by have c:=nE a s;have b:=fH l _ (by rw[(gq S s).n];exact a);exact(c.c b).b ν
def tickF(T:PS)(q:Nat):PS:=if T.h then T.gossip q else (T.gossip q).Mz q
def oB(S:PS):S.tick=if S.MC=0 then S.Me.L8.foldl tickF S.Me else S:=rfl
def vf(T:PS)(q:Nat):Sends T (tickF T q) (1+T.o.length):=by
 have a:Sends T (T.gossip q) 1:=ak T _;have b:Sends _ ((T.gossip q).Mz q) _:=bK _ 1 (λU m=>by split;exact ak U _;exact(Sends.f U).c ω) _ _
 have e:(T.gossip q).Mp.length=T.o.length:=by rw[ll,a.e]
 rw[e,Nat.mul_one]at b;unfold tickF;split;exact a.c ω;exact a.g b
def gW(U:PS):∀(l:List Nat),Sends U (l.foldl tickF U) (l.length*(1+U.o.length))
 |[]=>(Sends.f U).c ω
 |q::l=>by
   have b:=vf U q;have a:=gW (tickF U q) l;have e:(tickF U q).o=U.o:=by rw[b.e]
   rw[e]at a;refine(b.g a).c ?_;rw[List.length_cons,Nat.add_mul];omega
def Bp(a:S.n<=6)(t:ByteArray):cS S (S.cast t) 6:=by refine bt ?_ (cS.a S _);have h:=fS (set:=cX (S.MV (S.Ma t)).m (aO (S.MV (S.Ma t)).c)) (g:=λT q=>T.MN q (S.Ma t)) (λT q=>ak T _) a (S.MV (S.Ma t));exact h
end
section
open Codec (Msg Frame)
variable {C C':List (Int×Msg)}{p n:Nat}{v:Int}{row:Υ}{evs:List Ev}{S T:PS}{q i:Nat}{y e:Ev}{m:Msg}{l:List Ev}
def msgE(e:Ev):Prop:=e.b=1\/e.b=2
def keyE(a b:Ev):Prop:=a.a=b.a/\a.d=b.d/\a.seq=b.seq
def u0(m:Msg)(s:Nat)(j:Int):Prop:=if (s:Int)=m.a then j<m.seq else j<=m.c.getD s 0
structure EI(C:List (Int×Msg))(p n:Nat)(v:Int)(row:Υ)(evs:List Ev):Prop where
 t:∀e∈evs,e.a<=v
 src:∀e∈evs,msgE e->∃s:Nat,s<n/\e.d=s/\1<=e.seq/\(e.a=v->e.seq<=row.getD s 0)
 c:∀s:Nat,s<n->∀j:Int,1<=j->j<=row.getD s 0->∃e∈evs,msgE e/\e.a=v/\e.d=s/\e.seq=j
 d:evs.Pairwise λa b=>msgE a->msgE b->¬keyE a b
 h:∀e∈evs,msgE e->(e.d=p↔e.b=1)
 g:∀(i:Nat)e,evs[i]?=some e->e.b=2->∃m,(e.a,m)∈C/\m.a=e.d/\m.seq=e.seq/\m.b=e.e/\∀s:Nat,s<n->∀j:Int,1<=j->u0 m s j->∃(i':Nat)(x:Ev),i'<i/\evs[i']?=some x/\msgE x/\x.a=e.a/\x.d=s/\x.seq=j
 f:∀u m,(u,m)∈C->m.a=p->u<=v/\(u=v->m.seq<=row.getD p 0)/\∃k:Nat,evs[k]?=some ⟨1,u,p,m.seq,0,m.b⟩/\∀(j:Nat)x,j<k->evs[j]?=some x->msgE x->x.a=u->∃s:Nat,s<n/\x.d=s/\1<=x.seq/\u0 m s x.seq
def pA(h:(l++[y])[i]?=some e):(i<l.length/\l[i]?=some e)\/(i=l.length/\e=y):=by grind
def jI(h:l[i]?=some e):(l++[y])[i]?=some e:=by grind
def EI.more(h:EI C p n v row evs)(j:∀x∈C,x∈C')(c:∀x∈C',x∈C\/x.2.a≠p):EI C' p n v row evs:=by refine⟨h.t,h.src,h.c,h.d,h.h,λi e f d=>?_,λu m a b=>?_⟩;let⟨m,a,g⟩:=h.g i e f d;grind;rcases c _ a with a|a;exact h.f u m a b;grind
def EI.o(h:EI C p n v row evs)(K:¬msgE y){v':Int}{d:Υ}(Q:y.a<=v')(r:(v'=v/\d=row)\/(v<v'/\∀s:Nat,d.getD s 0<=0)):EI C p n v' d (evs++[y]):=by
 have z:v<=v':=by rcases r with ⟨e,-⟩|⟨e,-⟩<;>omega
 refine⟨λe b=>?_,λe b f=>?_,λs g j o t=>?_,?_,λe b f=>?_,λi e o t=>?_,λu m f g=>?_⟩;rcases List.mem_append.1 b with b|b;exact Int.le_trans (h.t e b) z;grind
 .rcases List.mem_append.1 b with b|b;let⟨s,g,I,L,U⟩:=h.src e b f;refine⟨s,g,I,L,λP=>?_⟩;rcases r with ⟨rfl,rfl⟩|⟨H,-⟩;omega;have:=h.t e b;omega;grind
 rcases r with ⟨rfl,rfl⟩|⟨-,V⟩;let⟨e,b,r⟩:=h.c s g j o t;grind;grind;rw[List.pairwise_append];refine⟨h.d,List.pairwise_singleton _ _,λa _ c W _ f=>?_⟩;grind;rcases List.mem_append.1 b with b|b;exact h.h e b f;grind;rcases pA o with ⟨-,o⟩|⟨-,rfl⟩;let⟨m,f,E,D,A,B⟩:=h.g i e o t;refine⟨m,f,E,D,A,λs g j w O=>?_⟩;let⟨N,x,G,F,M⟩:=B s g j w O;exact⟨N,x,G,jI F,M⟩;exact(K (.inr t)).elim;let⟨E,D,k,A,B⟩:=h.f u m f g;refine⟨ω,λe=>?_,k,jI A,λj x w R=>B j x w ?_⟩;grind;grind
def u4{r:Υ}{s:Nat}{x:Int}(a:q<r.length):(r.set q x).getD s 0=if q=s then x else r.getD s 0:=by grind
def EI.r(h:EI C p n v row evs)(hl:row.length=n)(Z:q<n){kind:Int}(B:m.a=q)(hn:m.seq=row.getD q 0+1)(h0:0<=row.getD q 0)(hC:∀x∈C,x∈C')(V:(kind=2/\q≠p/\(∀x∈C',x∈C)/\(v,m)∈C/\∀s:Nat,s<n->s≠q->m.c.getD s 0<=row.getD s 0)\/(kind=1/\q=p/\(∀x∈C',x∈C\/x=(v,m))/\∀s:Nat,s<n->s≠q->row.getD s 0<=m.c.getD s 0)):EI C' p n v (row.set q (row.getD q 0+1)) (evs++[⟨kind,v,m.a,m.seq,0,m.b⟩]):=by
 have A:q<row.length:=by rw[hl];exact Z
 have X:msgE ⟨kind,v,m.a,m.seq,0,m.b⟩:=by rcases V with ⟨e,-⟩|⟨e,-⟩<;>simp[msgE,e]
 have L:∀s:Nat,row.getD s 0<=(row.set q (row.getD q 0+1)).getD s 0:=λs=>by grind
 refine⟨λe d=>?_,λe d f=>?_,λs b j t z=>?_,?_,λe d f=>?_,λi e t z=>?_,λu w G b=>?_⟩;rcases List.mem_append.1 d with d|d;exact h.t e d;grind;rcases List.mem_append.1 d with d|d;let⟨s,b,e1,e2,e3⟩:=h.src e d f;grind;grind
 .rw[u4 A]at z;by_cases e:q=s;subst e;rw[if_pos rfl]at z;by_cases r:j<=row.getD q 0;let⟨x,o,M⟩:=h.c q Z j t r;grind;grind;rw[if_neg e]at z;let⟨x,o,M⟩:=h.c s b j t z;grind
 rw[List.pairwise_append];refine⟨h.d,List.pairwise_singleton _ _,λa D c hc Q _ F=>?_⟩;rw[List.mem_singleton]at hc;subst hc;let⟨s,b,e1,e2,e3⟩:=h.src a D Q;let⟨k1,k2,k3⟩:=F;grind;rcases List.mem_append.1 d with d|d;exact h.h e d f;grind
 .rcases pA t with ⟨-,t⟩|⟨hi,rfl⟩;let⟨w,f,Y,O,H,P⟩:=h.g i e t z;refine⟨w,hC _ f,Y,O,H,λs B j r D=>?_⟩;let⟨N,x,b1,b2,b3⟩:=P s B j r D;exact⟨N,x,b1,jI b2,b3⟩;rcases V with ⟨-,a5,-,U,ht⟩|⟨e,-⟩
  .refine⟨m,hC _ U,rfl,rfl,rfl,λs b j r D=>?_⟩;have I:j<=row.getD s 0:=by unfold u0 at D;by_cases e:s=q;grind;grind
   let⟨x,o,M⟩:=h.c s b j r I;let⟨N,a6,a0⟩:=List.mem_iff_getElem.1 o;refine⟨N,x,ω,jI ν,M⟩
  grind
 have E:(u,w)∈C->u<=v/\(u=v->w.seq<=(row.set q (row.getD q 0+1)).getD p 0)/\∃k:Nat,(evs++[⟨kind,v,m.a,m.seq,0,m.b⟩])[k]?=some ⟨1,u,p,w.seq,0,w.b⟩/\∀(j:Nat)x,j<k->(evs++[⟨kind,v,m.a,m.seq,0,m.b⟩])[j]?=some x->msgE x->x.a=u->∃s:Nat,s<n/\x.d=s/\1<=x.seq/\u0 w s x.seq:=λf=>by let⟨Y,O,k,H,P⟩:=h.f u w f b;refine⟨Y,λe=>Int.le_trans (O e) (L p),k,jI H,λj x r o=>P j x r ?_⟩;rcases pA o with ⟨-,o⟩|⟨e,-⟩;exact o;have:=(List.getElem?_eq_some_iff.1 H).1;omega
 rcases V with ⟨-,-,g,-⟩|⟨R,K,g,ht⟩;exact E (g _ G);rcases g _ G with f|f;exact E f;cases f;subst K;refine⟨Int.le_refl _,λ_=>by rw[u4 A,if_pos rfl];omega,evs.length,by rw[List.getElem?_append_right (Nat.le_refl _),Nat.sub_self,R,B];rfl,λj x r o W hv=>?_⟩;rw[List.getElem?_append_left r]at o;let⟨s,t,z,h3,h4⟩:=h.src x (List.mem_of_getElem? o) W;refine⟨s,t,z,h3,?_⟩;have:=h4 hv;unfold u0;by_cases e:s=q;subst e;rw[if_pos (by rw[B])];omega;rw[if_neg (by rw[B];omega)];exact Int.le_trans this (ht s t e)
structure CI(C:List (Int×Msg))(S:PS):Prop where
 ms:∀m∈S.o,(S.b,m)∈C
 left:∀(i:Nat)e,S.i[i]?=some e->∀m∈e.b,((i:Int),m)∈C
 snt:∀f∈S.e,Codec.dg f=true/\(∃q:Nat,q<S.n/\f.j=q)/\∀m∈f.d,(f.h,m)∈C
 b:EI C S.c S.n S.b S.Ml S.j
def CI.more(h:CI C S)(b:∀x∈C,x∈C')(g:∀x∈C',x∈C\/x.2.a≠(S.c:Int)):CI C' S:=
 ⟨λm a=>b _ (h.ms m a),λi e d m a=>b _ (h.left i e d m a),λf c=>⟨(h.snt f c).1,(h.snt f c).2.1,λm a=>b _ ((h.snt f c).2.2 m a)⟩,h.b.more b g⟩
def CI.h(h:CI C S){f:Frame}(c:∃q:Nat,q<S.n/\f.j=q)(b:∀m∈f.d,(f.h,m)∈C):CI C (S.MZ f):=by unfold PS.MZ;split;refine⟨h.ms,h.left,λg a=>?_,h.b⟩;rcases List.mem_append.1 a with a|a;exact h.snt g a;grind;exact h
def fT{c:Type}{g:PS->c->PS}{P:PS->Prop}:∀(l:List c)(S:PS),(∀T,∀a∈l,P T->P (g T a))->P S->P (l.foldl g S)
 |[],_,_,h=>h
 |a::l,S,b,h=>fT l _ (λT x f d=>b T x ν d) (b S a ς h)
def j8(S:PS)(f:Frame):dh S (S.MZ f):=(ak S f).a
def CI.t(h:CI C S){f:Type}{c:PS->f->Frame}{l:List f}(j:∀T a,a∈l->∃q:Nat,q<S.n/\(c T a).j=q)(d:∀T a,a∈l->dh S T->∀m∈(c T a).d,((c T a).h,m)∈C):CI C (l.foldl (λT a=>T.MZ (c T a)) S):=
 (fT (P:=λT=>CI C T/\dh S T) l S (λT a g b=>⟨b.1.h (by rw[b.2.n];simp_all) (d T a g b.2),b.2.b (j8 T _)⟩) ⟨h,dh.e S⟩).1
def CI.j(h:CI C S):CI C S.M1:=⟨λm a=>h.ms m (List.mem_filter.1 a).1,h.left,h.snt,h.b⟩
def CI.r(h:CI C S)(a:q≠S.c)(r:Υ):CI C (S.My q r):=by
 refine CI.j ⟨h.ms,h.left,h.snt,?_⟩;have:({S with q:=S.q.set q (dB (S.q.getD q []) r)}).Ml=S.Ml:=by show (S.q.set q _).getD _ []=S.q.getD _ [];simp[List.getElem?_set_ne a]
 rw[this];exact h.b
def CI.x(h:CI C S)(b:(S.b,m)∈C):CI C (S.MX m):=by unfold PS.MX;split;exact h;refine⟨λx a=>?_,h.left,h.snt,h.b⟩;rcases List.mem_append.1 a with a|a;exact h.ms x a;grind
def CI.c(h:CI C S){l:List Msg}(c:∀m∈l,(S.b,m)∈C):CI C (S.Mc l):=
 (fT (P:=λT=>CI C T/\dh S T) l S (λT a d b=>⟨b.1.x (by rw[b.2.a];grind),b.2.b (nc T a)⟩) ⟨h,dh.e S⟩).1
def rE(b:Wf S)(c:m.a=q)(a:Int):(S.Ms m a).Ml=S.Ml.set q m.seq:=by show (S.q.set _ _).getD S.c []=_;simp[b.a,b.num,c]
def CI.g:∀(k:Nat)(S:PS)(a:Υ),Wf S->CI C S->CI C (PS.Mt k S a)
 |0,_,_,_,h=>h
 |k+1,S,a,d,h=>by
   rw[PS.Mt];split;exact h;rename_i m w
   obtain⟨c,q,g,r,o,-,b⟩:=dy w;refine CI.g k _ a (d.k g r o (d.ms m c).a 2).1.j (CI.j ?_);have j:=d.g.1;refine⟨h.ms,h.left,h.snt,?_⟩;rw[rE d r];have t:=h.b.r j g r o (d.g.at g).1 (λ_ f=>f) (.inl ⟨rfl,λe=>?_,λ_ f=>f,h.ms m c,λs x u=>?_⟩);rw[<-o]at t;exact t;have:=(h.b.f _ m (h.ms m c) ω).2.1 rfl;grind;have:=List.all_eq_true.1 b s (List.mem_range.2 ω);grind
def CI.deliver(h:CI C S)(b:Wf S)(a:Υ):CI C (S.Mb a):=CI.g 121 S a b h
end
section
open Codec (Msg Frame)
variable {C C':List (Int×Msg)}{S T:PS}{f:Frame}{t:ByteArray}
def CI.install(h:CI C S)(l:Wf S)(q:S.out=false)(m:Int)(a:Υ):CI C (S.install m a):=by
 have k:=h.deliver l a;have d:=l.d a;have c:=(eh S a).out.trans q;unfold PS.install;generalize S.Mb a=U at k d c⊢;have g:∀(i:Nat)e,(U.M6 m a).i[i]?=some e->∀m∈e.b,((i:Int),m)∈C:=λi e b x j=>by have b:(U.i++[(⟨m,a,_⟩:Lft)])[i]?=some e:=b;by_cases o:i<U.i.length;rw[List.getElem?_append_left o]at b;exact k.left i e b x j;rw[List.getElem?_append_right ω]at b;have n:=(List.getElem?_eq_some_iff.1 b).1;simp at n;rw[show i-U.i.length=0 by omega]at b;simp at b;subst b;have u:=d.left.2 c;have r:=d.view.1;rw[show i=U.b by omega];exact k.ms x (jK j)
 split
 .refine⟨nofun,g,k.snt,?_⟩;refine k.b.o (by simp[msgE]) (v':=U.b+1) (Int.le_refl _) (.inr ⟨ω,λs=>?_⟩);have e:((U.M6 m a).enter m).Ml=List.replicate U.Ml.length 0:=by
   have g:U.c<U.q.length:=by rw[d.a];exact d.num
   show (U.q.map _).getD U.c []=List.replicate (U.q.getD U.c []).length 0;simp[g]
  grind
 exact⟨k.ms,g,k.snt,k.b.o (by simp[msgE]) (Int.le_refl _) (.inl ⟨rfl,rfl⟩)⟩
def CI.k(h:CI C S)(v:Vote)(L:Option Bal):CI C {S with a:=v,d:=L}:=⟨h.ms,h.left,h.snt,h.b⟩
def CI.d(h:CI C S)(B:Bal):CI C (S.Mi B):=h.t (λ_ q a=>⟨q,(eX.1 a).1,rfl⟩) λ_ _ _ _=>nofun
def CI.a(h:CI C S)(B:Bal):CI C (S.Mj B):=h.t (λ_ q a=>⟨q,(eX.1 a).1,rfl⟩) (λT _ _ b m c=>by rw[b.a];exact h.ms m (jK c))
def CI.o(h:CI C S):CI C S.MF:=h.t (λ_ q a=>⟨q,(eX.1 a).1,rfl⟩) (λT _ _ b m c=>by rw[b.a];exact h.ms m (jK c))
def CI.installIf(h:CI C S)(b:Wf S)(c:S.out=false)(B:Bal):CI C (S.installIf B):=by unfold PS.installIf;split;let⟨k,a⟩:=df S;exact h.o.install (a.d b) (a.a.out.trans c) _ _;exact h
def CI.w(h:CI C S)(c:Wf S)(d:S.out=false){B:Bal}(b:lh S.n S.a B):CI C (S.MA B):=by unfold PS.MA;split;obtain⟨k,a⟩:=bo _ _;exact CI.installIf ((h.k _ _).a _) (a.d (c.a5 b)) (a.a.out.trans d) _;exact h
def CI.p(h:CI C S)(b:Wf S):CI C S.Me:=by
 unfold PS.Me;split
 .rename_i e
  simp at e;rw[u2 b e.1.1];have a:CI C S.l:=⟨h.ms,h.left,h.snt,h.b⟩;exact a.d _
 split;unfold PS.Mr;split;exact h.d _;exact h.a _;exact h
def Ih(C:List (Int×Msg))(f:Frame):Prop:=∀m∈f.d,(f.h,m)∈C
def CI.v(h:CI C S)(b:Wf S)(v:S.out=false)(a:FrW S.n f)(E:Ih C f)(H:f.f≠S.c):CI C (S.MW f):=by
 have g:f.f.toNat≠S.c:=λe=>by obtain⟨q,-,r⟩:=a.src;omega
 unfold PS.MW;split;exact h;split
 .unfold PS.MM;split;exact h;refine h.h ⟨f.f.toNat,a.q,rfl⟩ λm c=>?_;rw[List.getD_eq_getElem?_getD]at c;match e:S.i[f.h.toNat]? with
  |none=>grind
  |some x=>
   rw[e]at c;have:=h.left _ x e m c;have G:=a.view.1;grind
 split
 .have z:f.h=S.b:=ω;have d:=λm c=>z▸E m c;unfold PS.L9;split
  .rename_i o
   obtain⟨-,m,c,A⟩:=a.data o;unfold PS.MQ;rw[c];have w:∀T:PS,Wf T->CI C T->CI C (if T.h then T else T.MG):=λT b h=>by split;exact h;exact h.deliver b _
   exact w _ ((b.i a.q a.row).x A) ((h.r g f.g).x (d m ν))
  split
  .have w:∀T:PS,CI C T->CI C (if T.g<f.a then T.MH f.a else T):=λT h=>by split;exact⟨h.ms,h.left,h.snt,h.b⟩;exact h
   exact w _ (h.r g f.g)
  split;unfold PS.MR;split;exact h;exact CI.h (S:=(S.Mx f.a).suspect f.b) ⟨h.ms,h.left,h.snt,h.b⟩ a.src λm c=>h.ms m (lq.1 c);split
  .rename_i o
   unfold PS.Mv;split;exact h;rename_i B i
   split
   .rename_i s
    have r:=a.q;have p:=(b.i r a.row).f (l:=f.d) a.msgs;have u:=(dq S f.f.toNat f.g).b (bf _ f.d);have y:lh S.n S.a (B.f f.f.toNat (f.g,⟨f.e,f.b,f.i⟩)):=(b.lead B i).g (Nat.lt_of_lt_of_le r b.c) (mY (b.lead B i).asked (b.lead B i).answ ((Bool.and_eq_true_iff.1 s).2)) ⟨(a.b o).2.1,a.voted,(a.b o).2.2,a.members⟩;have l:lh ((S.My f.f.toNat f.g).Mc f.d).n ((S.My f.f.toNat f.g).Mc f.d).a (B.f f.f.toNat (f.g,⟨f.e,f.b,f.i⟩)):=by rw[u.n,u.c];exact y
    exact CI.w (((h.r g f.g).c (l:=f.d) d).k ((S.My f.f.toNat f.g).Mc f.d).a (some (B.f f.f.toNat (f.g,⟨f.e,f.b,f.i⟩)))) (p.e (v:=((S.My f.f.toNat f.g).Mc f.d).a) p.vote λD e=>by cases e;exact l) (u.out.trans v) l
   exact h
  split;unfold PS.MK;split;exact h;refine CI.h ?_ (by rw[(bf _ f.d).n];exact a.src) λ_ c=>(List.not_mem_nil c).elim;exact CI.c (S:={S.Mx f.a with a:=⟨f.a,f.b,f.i⟩}) ⟨h.ms,h.left,h.snt,h.b⟩ d;split
  .unfold PS.Mk;split;exact h;rename_i B i
   split;have k:=b.lead B i;refine CI.installIf (h.k S.a (some {B with d:=j9 B.d (aO f.f.toNat)})) (b.e (v:=S.a) b.vote λD e=>?_) v _;cases e;exact⟨k.f,k.c,k.cut,k.num,k.out,k.asked,k.answ,k.acc.f (.c (Nat.lt_of_lt_of_le a.q b.c)),k.e⟩;exact h
  split;exact CI.install (h.c d) (b.f a.msgs) ((bf S f.d).out.trans v) _ _;exact h
 exact h
def Bo(h:S.MC=0):S.f=false/\S.out=false:=by unfold PS.MC at h;grind
def CI.s(h:CI C S)(d:Wf S){s:List UInt8}(c:Codec.bM s=true->Ih C (Codec.bO s).1):CI C (S.Mn s):=by
 unfold PS.Mn;split
 .rename_i e
  simp at e;have b:=e.1.2;have a:=e.2;refine h.v d (Bo e.1.1).2 (LB (by simp only[Codec.bM,Bool.and_eq_true]at b;grind) a) (c b) ?_;simp only[na,Bool.and_eq_true,bne_iff_ne,ne_eq]at a;omega
 exact h
def u7(S:PS)(q:Nat):dh S (S.gossip q):=j8 S _
def CI.l(h:CI C S){q:Nat}(c:q<S.n):CI C (S.Mz q):=by refine(fT (P:=λT=>CI C T/\dh S T) _ S (λT m d a=>?_) ⟨h,dh.e S⟩).1;split;refine⟨a.1.h ⟨q,by rw[a.2.n];exact c,rfl⟩ λx b=>?_,a.2.b (j8 T _)⟩;rw[List.mem_singleton]at b;subst b;rw[a.2.a];exact h.ms x (lq.1 d);omega
def CI.tick(h:CI C S)(g:Wf S):CI C S.tick:=by
 unfold PS.tick;split
 .refine(fT (P:=λT=>CI C T/\T.n=S.Me.n) _ _ (λT q b a=>?_) ⟨h.p g,rfl⟩).1;have b:q<T.n:=by rw[a.2];exact(eX.1 b).1
  have d:CI C (T.gossip q):=a.1.h ⟨q,b,rfl⟩ λ_ i=>(List.not_mem_nil i).elim;have c:=u7 T q;split;exact⟨d,c.n.trans a.2⟩;obtain⟨k,e⟩:=ei _ q;exact⟨d.l (by rw[c.n];exact b),(e.a.n.trans c.n).trans a.2⟩
 exact h
def CI.y(h:CI C S)(d:Wf S){l:List (List UInt8)}(c:∀s∈l,Codec.bM s=true->Ih C (Codec.bO s).1):CI C (S.Nc l):=by have:=fT (P:=λT=>CI C T/\Wf T) l S (λT s b a=>⟨a.1.s a.2 (c s b),a.2.o s⟩) ⟨h,d⟩;exact this.1.tick this.2
def CI.u(h:CI C S)(q:Nat):CI C (S.Mu q):=by unfold PS.Mu;split;exact⟨h.ms,h.left,h.snt,h.b⟩;exact h
def CI.crash(h:CI C S):CI C S.crash:=⟨h.ms,h.left,h.snt,h.b⟩
def CI.cast(h:CI C S)(d:Wf S)(p:S.Mf t=0):CI (C++[(S.b,S.Ma t)]) (S.cast t):=by
 have a:∀x∈C,x∈C++[(S.b,S.Ma t)]:=λx c=>ν;have u:CI (C++[(S.b,S.Ma t)]) {S.Ms (S.Ma t) 1 with o:=PS.put (S.Ms (S.Ma t) 1).o (S.Ma t)}:=by
  refine⟨λm b=>?_,λi e o m b=>a _ (h.left i e o m b),λf g=>⟨(h.snt f g).1,(h.snt f g).2.1,λm b=>a _ ((h.snt f g).2.2 m b)⟩,?_⟩
  .have k:(S.b,S.Ma t)∈C++[(S.b,S.Ma t)]:=ς;show (S.b,m)∈_;unfold PS.put at b;split at b;obtain⟨x,c,rfl⟩:=List.mem_map.1 b;split;omega;exact a _ (h.ms x c);rcases List.mem_append.1 b with c|c;exact a _ (h.ms m c);grind
  show EI _ _ S.n _ (S.Ms _ 1).Ml _;rw[rE d rfl];refine h.b.r d.g.1 d.num rfl rfl (d.g.at d.num).1 a (.inr ⟨rfl,rfl,λx c=>?_,λs w r=>?_⟩);grind;show S.Ml.getD s 0<=(S.Ml.set _ _).getD s 0;grind
 unfold PS.cast;rw[if_pos p];refine u.j.t (λ_ q l=>⟨q,(eX.1 l).1,rfl⟩) λT _ _ v m b=>?_;rw[List.mem_singleton]at b;subst b;show (T.b,_)∈_;rw[v.a];exact List.mem_append_right _ (List.mem_singleton_self _)
def FN(a:S.Mf t≠0):S.cast t=S:=by unfold PS.cast;grind
def Ij{a n b:Nat}(d:a<n):CI [] (PS.Ni a n b):=by
 have c:(PS.Ni a n b).Ml=List.replicate n 0:=by show (List.replicate n _).getD a []=_;simp[d]
 refine⟨nofun,nofun,nofun,?_⟩;rw[c];exact⟨nofun,nofun,λs h j g e=>ν,List.Pairwise.nil,nofun,nofun,nofun⟩
end
end Go.Proofs.Y.Md
section
namespace Go.Proofs.Y.Md
open Codec (Msg Frame)
def zY(f:Frame):Int×ByteArray:=(f.j,⟨(Codec.im f).toArray⟩)
def tt(lim:Nat)(pl:List (Int×ByteArray))(c:Int×ByteArray):List (Int×ByteArray):=if pl.length<lim then pl++[c] else pl
def tr(lim:Nat)(pl cs:List (Int×ByteArray)):List (Int×ByteArray):=cs.foldl (tt lim) pl
structure Grp where
 n:Nat
 d:Nat
 c:Nat
 b:Nat->PS
 a:List (Int×ByteArray)
namespace Grp
def Nk(G:Grp)(i:Nat)(S:PS):Grp:={G with b:=λj=>if j=i then S else G.b j}
def MB(G:Grp)(i:Nat):Grp:={G.Nk i {G.b i with e:=[]} with a:=tr G.c G.a ((G.b i).e.map zY)}
def drop(G:Grp)(k:Nat):Grp:={G with a:=G.a.eraseIdx k}
def Np(G:Grp)(q:Nat)(s:ByteArray):Grp:=(G.Nk q ((G.b q).Mn s.data.toList)).MB q
def deliver(G:Grp)(k:Nat):Grp:=match G.a[k]? with
 |none=>G
 |some c=>(G.drop k).Np c.1.toNat c.2
def copy(G:Grp)(k:Nat):Grp:=match G.a[k]? with
 |none=>G
 |some c=>{G with a:=tt G.c G.a c}
def cast(G:Grp)(q:Nat)(t:ByteArray):Grp:=(G.Nk q ((G.b q).cast t)).MB q
def tick(G:Grp)(q:Nat):Grp:=(G.Nk q (G.b q).tick).MB q
def suspect(G:Grp)(q r:Nat):Grp:=G.Nk q ((G.b q).Mu r)
def crash(G:Grp)(q:Nat):Grp:=G.Nk q (G.b q).crash
def MT(net:List (Int×ByteArray))(q:Nat):List (List UInt8):=(net.filter λc=>c.1==(q:Int)).map λc=>c.2.data.toList
def MU(G:Grp):Grp:={G with a:=[],b:=λq=>(G.b q).Nc (MT G.a q)}
def round(G:Grp):Grp:=(List.range G.n).foldl MB G.MU
def Nm(n win lim:Nat):Grp:=⟨n,win,lim,λi=>PS.Ni i n win,[]⟩
end Grp
def uY(C:List (Int×Msg))(n:Nat)(c:Int×ByteArray):Prop:=∃f,Codec.dg f=true/\c=zY f/\(∃q:Nat,q<n/\f.j=q)/\Ih C f
def uY.more{C a:List (Int×Msg)}{n:Nat}{c:Int×ByteArray}(h:uY C n c)(j:∀x∈C,x∈a):uY a n c:=by let⟨f,g,e,b,d⟩:=h;exact⟨f,g,e,b,λm i=>j _ (d m i)⟩
def uY.a{C:List (Int×Msg)}{n:Nat}{c:Int×ByteArray}(h:uY C n c):Ih C (Codec.bO c.2.data.toList).1:=by obtain⟨f,b,rfl,-,a⟩:=h;show Ih C (Codec.bO (Codec.im f)).1;have:=Codec.rB f b;rw[this];exact a
structure PI(G:Grp)(C:List (Int×Msg))(i:Nat)(S:PS):Prop where
 b:CI C S
 a:Wf S
 num:S.c=i
 n:S.n=G.n
structure CG(C:List (Int×Msg))(G:Grp):Prop where
 st:∀i,i<G.n->PI G C i (G.b i)/\(G.b i).e=[]
 net:∀c∈G.a,uY C G.n c
variable {C C':List (Int×Msg)}{G:Grp}
def gX{lim:Nat}{P:Int×ByteArray->Prop}:∀(b d:List (Int×ByteArray)),(∀c∈d,P c)->(∀c∈b,P c)->∀c∈tr lim d b,P c
 |[],_,h,_=>h
 |x::b,d,h,k=>by refine gX b _ (λc a=>?_) λc a=>k c ν;unfold tt at a;split at a;rcases List.mem_append.1 a with a|a;exact h c a;rw[List.mem_singleton]at a;subst a;exact k c ς;exact h c a
structure Lp(C:List (Int×Msg))(G:Grp)(i:Nat):Prop where
 st:∀j,j<G.n->PI G C j (G.b j)/\(j≠i->(G.b j).e=[])
 net:∀c∈G.a,uY C G.n c
def PI.carried{i:Nat}(h:PI G C i (G.b i)):∀c∈(G.b i).e.map zY,uY C G.n c:=λc g=>by obtain⟨f,e,rfl⟩:=List.mem_map.1 g;let⟨d,b,a⟩:=h.b.snt f e;exact⟨f,d,rfl,by rw[<-h.n];exact b,a⟩
def PI.c{i:Nat}{S:PS}(h:PI G C i S):PI G C i {S with e:=[]}:=
 ⟨⟨h.b.ms,h.b.left,nofun,h.b.b⟩,⟨h.a.c,h.a.num,h.a.a,h.a.kn,h.a.ms,h.a.view,h.a.mem,h.a.sus,h.a.h,h.a.prom,h.a.vote,h.a.lead,h.a.left,h.a.t⟩,h.num,h.n⟩
def Lp.a{i:Nat}(h:Lp C G i)(b:i<G.n):CG C (G.MB i):=by refine⟨λj a=>?_,gX _ _ h.net (h.st i b).1.carried⟩;show PI _ C j (if j=i then {G.b i with e:=[]} else G.b j)/\(if j=i then {G.b i with e:=[]} else G.b j).e=[];by_cases e:j=i;subst e;rw[if_pos rfl];have k:=(h.st j a).1.c;exact⟨⟨k.b,k.a,k.num,k.n⟩,rfl⟩;rw[if_neg e];let⟨k,c⟩:=h.st j a;exact⟨⟨k.b,k.a,k.num,k.n⟩,c e⟩
def CG.put(h:CG C G){i:Nat}{S:PS}(b:∀x∈C,x∈C')(m:∀x∈C',x∈C\/x.2.a=(i:Int))(o:i<G.n->PI G C' i S):Lp C' (G.Nk i S) i:=by refine⟨λj a=>?_,λc l=>(h.net c l).more b⟩;show PI _ C' j (if j=i then S else G.b j)/\(j≠i->(if j=i then S else G.b j).e=[]);by_cases e:j=i;subst e;rw[if_pos rfl];have k:=o a;exact⟨⟨k.b,k.a,k.num,k.n⟩,λh=>(h rfl).elim⟩;rw[if_neg e];let⟨k,g⟩:=h.st j a;refine⟨⟨k.b.more b λx d=>(m x d).imp id λf=>?_,k.a,k.num,k.n⟩,λ_=>g⟩;rw[f,k.num];omega
def Lp.b{i:Nat}(h:Lp C G i)(b:(G.b i).e=[]):CG C G:=
 ⟨λj a=>⟨(h.st j a).1,by
  by_cases e:j=i
  grind
  exact(h.st j a).2 e⟩,h.net⟩
def CG.drop(h:CG C G)(k:Nat):CG C (G.drop k):=
 ⟨λi a=>by let⟨k,b⟩:=h.st i a;exact⟨⟨k.b,k.a,k.num,k.n⟩,b⟩,λc d=>h.net c (List.mem_of_mem_eraseIdx d)⟩
def CG.copy(h:CG C G)(k:Nat):CG C (G.copy k):=by
 unfold Grp.copy;split;exact h;rename_i c f
 refine⟨λi d=>?_,λx b=>?_⟩;let⟨k,e⟩:=h.st i d;exact⟨⟨k.b,k.a,k.num,k.n⟩,e⟩;have:=gX (lim:=G.c) [c] _ h.net (λy a=>by rw[List.mem_singleton]at a;subst a;exact h.net y (List.mem_of_getElem? f));exact this x b
def PI.d{i:Nat}{S T:PS}(h:PI G C i S)(b:CI C' T)(a:Wf T)(o:mI S T):PI G C' i T:=⟨b,a,o.num.trans h.num,o.n.trans h.n⟩
def CG.a(h:CG C G){i:Nat}{T:PS}(c:i<G.n->CI C T/\Wf T/\mI (G.b i) T):Lp C (G.Nk i T) i:=
 h.put (λ_ b=>b) (λ_ b=>.inl b) λa=>(h.st i a).1.d (c a).1 (c a).2.1 (c a).2.2
def CG.e(h:CG C G){q:Nat}(b:q<G.n){s:ByteArray}(c:Codec.bM s.data.toList=true->Ih C (Codec.bO s.data.toList).1):CG C (G.Np q s):=
 (h.a λa=>⟨(h.st q a).1.b.s (h.st q a).1.a c,(h.st q a).1.a.o _,gq _ _⟩).a b
def uY.b{n:Nat}{c:Int×ByteArray}(h:uY C n c):c.1.toNat<n:=by obtain⟨f,-,rfl,⟨q,a,e⟩,-⟩:=h;show f.j.toNat<n;omega
def CG.deliver(h:CG C G)(k:Nat):CG C (G.deliver k):=by
 unfold Grp.deliver;split;exact h;rename_i c b
 have a:=h.net c (List.mem_of_getElem? b);exact(h.drop k).e a.b λ_=>a.a
def Bt{S:PS}{s:List UInt8}(h:Codec.bM s=false):S.Mn s=S:=by unfold PS.Mn;grind
def CG.cast(h:CG C G){q:Nat}(b:q<G.n)(t:ByteArray):∃d,CG d (G.cast q t):=by
 have k:=(h.st q b).1;by_cases c:(G.b q).Mf t=0
 .refine⟨C++[((G.b q).b,(G.b q).Ma t)],?_⟩;refine(h.put (λx a=>ν) (λx a=>?_) λ_=>k.d (k.b.cast k.a c) (k.a.cast t) (lY _ _)).a b;rcases List.mem_append.1 a with a|a;grind;rw[List.mem_singleton]at a;subst a;refine .inr ?_;show ((G.b q).c:Int)=q;rw[k.num]
 refine⟨C,(h.a λ_=>⟨?_,k.a.cast t,lY _ _⟩).a b⟩;rw[FN c];exact k.b
def CG.tick(h:CG C G){q:Nat}(b:q<G.n):CG C (G.tick q):=
 (h.a λa=>⟨(h.st q a).1.b.tick (h.st q a).1.a,(h.st q a).1.a.tick,pt _⟩).a b
def CG.suspect(h:CG C G){q r:Nat}(a:q<G.n)(d:r<G.n):CG C (G.suspect q r):=by have b:=Nat.lt_of_lt_of_le d (by have:=(h.st q a).1.a.c;rw[(h.st q a).1.n]at this;omega);refine(h.a λc=>⟨(h.st q c).1.b.u r,(h.st q c).1.a.a8 b,lZ _ _⟩).b ?_;show (if q=q then _ else _:PS).e=[];rw[if_pos rfl];have:=(h.st q a).2;unfold PS.Mu;split;exact this;omega
def CG.crash(h:CG C G){q:Nat}(b:q<G.n):CG C (G.crash q):=by have k:=(h.st q b).1;refine(h.put (λ_ a=>a) (λ_ a=>.inl a) λ_=>⟨k.b.crash,k.a.crash,k.num,k.n⟩).b ?_;show (if q=q then _ else _:PS).e=[];rw[if_pos rfl];exact(h.st q b).2
structure KM(C:List (Int×Msg))(G:Grp)(k:Nat):Prop where
 st:∀j,j<G.n->PI G C j (G.b j)/\(j<k->(G.b j).e=[])
 net:∀c∈G.a,uY C G.n c
def KM.a{k:Nat}(h:KM C G k)(c:k<G.n):KM C (G.MB k) (k+1):=by refine⟨λj b=>?_,gX _ _ h.net (h.st k c).1.carried⟩;show PI _ C j (if j=k then {G.b k with e:=[]} else G.b j)/\(j<k+1->(if j=k then {G.b k with e:=[]} else G.b j).e=[]);by_cases e:j=k;subst e;rw[if_pos rfl];have k:=(h.st j b).1.c;exact⟨⟨k.b,k.a,k.num,k.n⟩,λ_=>rfl⟩;rw[if_neg e];let⟨a,d⟩:=h.st j b;exact⟨⟨a.b,a.a,a.num,a.n⟩,λh=>d ω⟩
def KM.all:∀(k:Nat),KM C G 0->k<=G.n->KM C ((List.range k).foldl Grp.MB G) k/\((List.range k).foldl Grp.MB G).n=G.n
 |0,h,_=>⟨h,rfl⟩
 |k+1,h,b=>by let⟨a,e⟩:=KM.all k h ω;rw[List.range_succ,List.foldl_append];exact⟨a.a ω,e⟩
def CG.round(h:CG C G):CG C G.round:=by
 have b:KM C G.MU 0:=by refine⟨λj d=>⟨?_,λh=>ω⟩,nofun⟩;have k:=(h.st j d).1;have o:=vd (G.b j) (Grp.MT G.a j);refine⟨k.b.y k.a λs f l=>?_,k.a.b6 _,o.num.trans k.num,o.n.trans k.n⟩;obtain⟨c,g,rfl⟩:=List.mem_map.1 f;exact(h.net c (List.mem_filter.1 g).1).a
 obtain⟨k,e⟩:=KM.all G.n b (Nat.le_refl _);exact⟨λi a=>⟨(k.st i a).1,(k.st i a).2 (by rw[show G.round.n=G.n from e]at a;exact a)⟩,k.net⟩
def Ii{n win lim:Nat}(b:n<=6):CG [] (Grp.Nm n win lim):=⟨λ_ a=>⟨⟨Ij a,DK b a,rfl,rfl⟩,rfl⟩,nofun⟩
end Go.Proofs.Y.Md
end
namespace Go.Proofs.Y.Md
section
open Codec (Msg Frame)
variable {S T U:PS}{f:Frame}
def Bv(S:PS):S.M1.o.length<=S.o.length:=List.length_filter_le _ _
def nG:∀(k:Nat)(S:PS)(a:Υ),(PS.Mt k S a).o.length<=S.o.length
 |0,_,_=>Nat.le_refl _
 |k+1,S,a=>by unfold PS.Mt;split;omega;exact Nat.le_trans (nG k _ a) (Bv _)
def qw9(S:PS)(m:Int)(a:Υ):(S.install m a).o.length<=S.o.length:=by unfold PS.install;split;exact Nat.zero_le _;exact nG _ S a
def Sends.i{k:Nat}(h:Sends S T k):T.o=S.o:=by rw[h.e]
def qvr(S:PS)(B:Bal):(S.installIf B).o.length<=S.o.length:=by unfold PS.installIf;split;let⟨k,a⟩:=df S;exact Nat.le_trans (qw9 _ _ _) (Nat.le_of_eq (congrArg _ a.i));omega
def BB(S:PS)(B:Bal):(S.MA B).o.length<=S.o.length:=by unfold PS.MA;split;obtain⟨k,a⟩:=bo _ _;exact Nat.le_trans (qvr _ _) (Nat.le_of_eq (congrArg _ a.i));omega
def qD(S:PS):S.Me.o.length<=S.o.length:=by unfold PS.Me;split;have e:S.M5=(S.l.Mi _).MA _:=rfl;obtain⟨k,a⟩:=bA _ _;exact Nat.le_trans (BB _ _) (Nat.le_of_eq (congrArg _ a.i));split;unfold PS.Mr;split;exact(bA S _).elim λ_ h=>Nat.le_of_eq (congrArg _ h.i);exact(bo S _).elim λ_ h=>Nat.le_of_eq (congrArg _ h.i);omega
def Bq(a:S.n<=6):cS S S.tick (18+6*(1+S.o.length)):=by rw[oB];split;have d:=ft a;have c:=(gW S.Me S.Me.L8).h;have e:=qD S;have b:S.Me.L8.length<=6:=Nat.le_trans (tz _ _) (by rw[(gr S).n];exact a);refine d.c (c.b ?_);exact Nat.mul_le_mul b ω;exact cS.a S _
structure GW(G:Grp):Prop where
 b:G.n<=6
 a:∀i,i<G.n->Wf (G.b i)
 num:∀i,i<G.n->(G.b i).c=i
 n:∀i,i<G.n->(G.b i).n=G.n
 snt:∀i,i<G.n->(G.b i).e=[]
 lim:G.c<=4000
 net:G.a.length<=G.c
variable {i:Nat}
section
def mZ:ByteArray:=⟨#[102,105,114,115,116]⟩
abbrev Book:=Nat->Bool
def Book.put(cr:Book)(q:Nat):Book:=λj=>if j=q then true else cr j
inductive dY(fair:Bool)(n win lim:Nat):Grp->Book->Prop
 |start:dY fair n win lim ((Grp.Nm n win lim).cast 0 mZ) λ_=>false
 |deliver {G:Grp}{cr:Book} (k:Nat):dY fair n win lim G cr->dY fair n win lim (G.deliver k) cr
 |drop {G:Grp}{cr:Book} (k:Nat):dY fair n win lim G cr->dY fair n win lim (G.drop k) cr
 |copy {G:Grp}{cr:Book} (k:Nat):dY fair n win lim G cr->dY fair n win lim (G.copy k) cr
 |cast {G:Grp}{cr:Book} (q:Nat) (t:ByteArray):q<n->t.size<=16->dY fair n win lim G cr->dY fair n win lim (G.cast q t) cr
 |tick {G:Grp}{cr:Book} (q:Nat):q<n->dY fair n win lim G cr->dY fair n win lim (G.tick q) cr
 |crash {G:Grp}{cr:Book} (q:Nat):q<n->dY fair n win lim G cr->dY fair n win lim (G.crash q) (cr.put q)
 |suspect {G:Grp}{cr:Book} (q r:Nat):q<n->r<n->(fair=true->cr r=true)->dY fair n win lim G cr->dY fair n win lim (G.suspect q r) cr
 |round {G:Grp}{cr:Book}:dY fair n win lim G cr->dY fair n win lim G.round cr
variable {fair:Bool}{n win lim:Nat}{G:Grp}{cr:Book}
def dQ{a:Nat}:∀(d b:List (Int×ByteArray)),b.length<=a->(tr a b d).length<=a
 |[],_,h=>h
 |c::d,b,h=>by refine dQ d _ ?_;unfold tt;grind
def Bu(h:G.a.length<=G.c):(G.MB i).a.length<=(G.MB i).c:=dQ _ _ h
def jG:∀(l:List Nat)(G:Grp),G.a.length<=G.c->(l.foldl Grp.MB G).a.length<=(l.foldl Grp.MB G).c/\(l.foldl Grp.MB G).n=G.n/\(l.foldl Grp.MB G).d=G.d/\(l.foldl Grp.MB G).c=G.c
 |[],_,h=>⟨h,rfl,rfl,rfl⟩
 |i::l,G,h=>jG l (G.MB i) (Bu h)
def dI(G:Grp)(i j:Nat):((G.MB i).b j).f=(G.b j).f:=by show (if j=i then {G.b i with e:=[]} else G.b j).f=_;grind
def jk(j:Nat):∀(l:List Nat)(G:Grp),((l.foldl Grp.MB G).b j).f=(G.b j).f
 |[],_=>rfl
 |i::l,G=>(jk j l _).trans (dI G i j)
def eY{S:PS}(h:S.f=(G.b i).f)(j:Nat):((G.Nk i S).b j).f=(G.b j).f:=by show (if j=i then S else G.b j).f=_;grind
structure RI(n win lim:Nat)(G:Grp)(cr:Book):Prop where
 a:∃C,CG C G
 n:G.n=n
 win:G.d=win
 lim:G.c=lim
 net:G.a.length<=G.c
 crashed:∀i,(G.b i).f=cr i
def dY.a(h:dY fair n win lim G cr)(m:1<=n/\n<=6):RI n win lim G cr:=by
 induction h with
 |start=>
  obtain⟨C,b⟩:=(Ii m.2).cast (by show 0<n;omega) _;exact⟨⟨C,b⟩,rfl,rfl,rfl,dQ _ _ (Nat.zero_le _),λi=>(dI _ _ _).trans (eY (lY _ _).crashed i)⟩
 |@deliver G cr k _ a=>
  obtain⟨C,b⟩:=a.a;have l:(G.drop k).a.length<=G.c:=Nat.le_trans (List.length_eraseIdx_le _ _) a.net;refine⟨⟨C,b.deliver k⟩,?_,?_,?_,?_,λi=>?_⟩<;>unfold Grp.deliver<;>split;exact a.n;exact a.n;exact a.win;exact a.win;exact a.lim;exact a.lim;exact a.net;exact dQ _ _ l;exact a.crashed i;exact((dI _ _ _).trans (eY (gq _ _).crashed i)).trans (a.crashed i)
 |@drop G cr k _ a=>
  obtain⟨C,b⟩:=a.a;exact⟨⟨C,b.drop k⟩,a.n,a.win,a.lim,Nat.le_trans (List.length_eraseIdx_le _ _) a.net,a.crashed⟩
 |@copy G cr k _ a=>
  obtain⟨C,b⟩:=a.a;refine⟨⟨C,b.copy k⟩,?_,?_,?_,?_,λi=>?_⟩<;>unfold Grp.copy<;>split;exact a.n;exact a.n;exact a.win;exact a.win;exact a.lim;exact a.lim;exact a.net;exact dQ [_] _ a.net;exact a.crashed i;exact a.crashed i
 |@cast G cr q t d _ _ a=>
  obtain⟨C,b⟩:=a.a;obtain⟨g,e⟩:=b.cast (by rw[a.n];exact d) t;exact⟨⟨g,e⟩,a.n,a.win,a.lim,dQ _ _ a.net,λi=>((dI _ _ _).trans (eY (lY _ _).crashed i)).trans (a.crashed i)⟩
 |@tick G cr q d _ a=>
  obtain⟨C,b⟩:=a.a;exact⟨⟨C,b.tick (q:=q) (by rw[a.n];exact d)⟩,a.n,a.win,a.lim,dQ _ _ a.net,λi=>((dI _ _ _).trans (eY (pt _).crashed i)).trans (a.crashed i)⟩
 |@crash G cr q d _ a=>
  obtain⟨C,b⟩:=a.a;refine⟨⟨C,b.crash (q:=q) (by rw[a.n];exact d)⟩,a.n,a.win,a.lim,a.net,λi=>?_⟩;show (if i=q then (G.b q).crash else G.b i:PS).f=if i=q then true else cr i
  split;rfl;exact a.crashed i
 |@suspect G cr q r d j _ _ a=>
  obtain⟨C,b⟩:=a.a;exact⟨⟨C,b.suspect (q:=q) (r:=r) (by rw[a.n];exact d) (by rw[a.n];exact j)⟩,a.n,a.win,a.lim,a.net,λi=>(eY (lZ _ _).crashed i).trans (a.crashed i)⟩
 |@round G cr _ a=>
  obtain⟨C,b⟩:=a.a;obtain⟨s,p,f,o⟩:=jG (List.range G.n) G.MU (Nat.zero_le _);refine⟨⟨C,b.round⟩,p.trans a.n,f.trans a.win,o.trans a.lim,s,λi=>?_⟩;refine(jk i _ G.MU).trans (Eq.trans ?_ (a.crashed i));exact(vd _ _).crashed
def RI.b(h:RI n win lim G cr)(d:n<=6)(c:lim<=4000):GW G:=by let⟨C,b⟩:=h.a;exact⟨by rw[h.n];exact d,λi a=>(b.st i a).1.a,λi a=>(b.st i a).1.num,λi a=>(b.st i a).1.n,λi a=>(b.st i a).2,by rw[h.lim];exact c,h.net⟩
def RI.d(h:RI n win lim G cr){k:Nat}{x:Int×ByteArray}(c:G.a[k]?=some x):∃f,Codec.dg f=true/\x=zY f/\∃j:Nat,j<n/\x.1=(j:Int):=by let⟨C,d⟩:=h.a;obtain⟨f,b,rfl,⟨q,a,e⟩,-⟩:=d.net x (List.mem_of_getElem? c);exact⟨f,b,rfl,q,by rw[<-h.n];exact a,e⟩
def RI.c(h:RI n win lim G cr)(d:i<n)(t:ByteArray):∀x∈(G.b i).o,eA ((G.b i).Ma t).a ((G.b i).Ma t).seq x=false:=λx b=>by
 let⟨C,e⟩:=h.a;have k:=(e.st i (by rw[h.n];exact d)).1;cases a:eA _ _ x;rfl;have c:x.a=((G.b i).c)/\x.seq=(G.b i).Ml.getD (G.b i).c 0+1:=by unfold eA at a;rw[Bool.and_eq_true,beq_iff_eq,beq_iff_eq]at a;exact a
 have f:=(k.b.b.f _ x (k.b.ms x b) c.1).2.1 rfl;omega
end
variable {G:Grp}
def xL(b:S.n<=6):cS S S.tick (18+6*(1+S.tick.o.length)):=by rw[oB];split;have d:=ft b;have a:=gW S.Me S.Me.L8;have c:S.Me.L8.length<=6:=Nat.le_trans (tz _ _) (by rw[(gr S).n];exact b);rw[a.i];exact d.c (a.h.b (Nat.mul_le_mul c (Nat.le_refl _)));exact cS.a S _
def Br(a:S.n<=6)(l:List (List UInt8)):cS S (S.Nc l) (12*l.length+(18+6*(1+(S.Nc l).o.length))):=by have c:=fH l S a;have b:=xL (by rw[(iD gq l S).n];exact a);exact c.c b
def carried(G:Grp)(k:Nat):Grp:=(List.range k).foldl Grp.MB G
def lU(G:Grp)(k:Nat):carried G (k+1)=(carried G k).MB k:=by unfold carried;rw[List.range_succ,List.foldl_append];rfl
def lj(G:Grp)(j:Nat):∀k,(carried G k).b j=if j<k then {G.b j with e:=[]} else G.b j
 |0=>rfl
 |k+1=>by rw[lU];show (if j=k then {(carried G k).b k with e:=[]} else (carried G k).b j)=_;by_cases e:j=k;subst e;rw[if_pos rfl,if_pos ω,lj G j j,if_neg ω];rw[if_neg e,lj G j k];grind
def ti(G:Grp)(h:G.a.length<=G.c)(k:Nat):(carried G k).a.length<=G.c/\(carried G k).n=G.n/\(carried G k).d=G.d/\(carried G k).c=G.c:=by obtain⟨d,c,b,a⟩:=jG _ G h;exact⟨by rw[<-a];exact d,c,b,a⟩
def rG(a:List (Int×ByteArray))(q:Nat):(Grp.MT a q).length<=a.length:=by unfold Grp.MT;grind
def GW.round(a:GW G){i:Nat}(c:i<G.n):Wf (G.MU.b i)/\(G.MU.b i).e.length<=60000+6*(1+(G.MU.b i).o.length):=by have d:=a.a i c;refine⟨d.b6 _,?_⟩;have b:=Br d.c (Grp.MT G.a i);unfold cS at b;rw[a.snt i c]at b;have h:=rG G.a i;have g:=a.net;have f:=a.lim;have e:G.MU.b i=(G.b i).Nc (Grp.MT G.a i):=rfl;grind
end
section
open Codec (Msg Frame)
variable {Q v:Int}{V:Vote}
section
structure Gh where
 C:List (Int×Msg)
 D:List (Int×Υ)
 e:Int->Vote->Prop
 g:Int->Nat->Int->Vote->Υ->Prop
 f:Int->Nat->Int->Prop
def Gh.a(X:Gh)(n:Nat)(v:Int):Int:=if v.toNat=0 then 2^n-1 else ((X.D[v.toNat-1]?).getD (0,[])).1
def lT(A B:Int):Prop:=∀q,aV A q=true->aV B q=true
def nI(A B:Int):Prop:=ir A<2*ir B
def ga(n:Nat)(a b:Υ):Prop:=∀s,s<n->a.getD s 0<=b.getD s 0
def fl(C:List (Int×Msg))(n:Nat)(v:Int)(r:Υ):Prop:=
 ∀s:Nat,s<n->∀k:Int,1<=k->k<=r.getD s 0->∃m,(v,m)∈C/\m.a=s/\m.seq=k/\ga n m.c r
def jg{p q a:Nat->Bool}(c:∀x,p x=true->a x=true)(b:∀x,q x=true->a x=true):∀l:List Nat,(∀x∈l,p x=true->q x=false)->(l.filter p).length+(l.filter q).length<=(l.filter a).length
 |[],_=>ς
 |x::l,h=>by have e:=jg c b l λy d=>ν;grind
def wL{A P:Int}(b:lT P A)(c:lT Q A)(a:nI A P)(d:nI A Q):∃q,aV P q=true/\aV Q q=true:=by
 refine Classical.byContradiction λf=>?_;have:=jg b c (List.range 6) λx _ e=>by grind
 unfold nI ir iX at a d;omega
structure XI(X:Gh)(n:Nat):Prop where
 k:∀v V V',X.e v V->X.e v V'->V.b=V'.b->V=V'
 j:∀v p b,X.f v p b->0<b/\∃V,X.e v V/\V.b=b
 h:∀v V,X.e v V->∃(Q:Int)(as:Nat->Vote×Υ),lT Q (X.a n v)/\nI (X.a n v) Q/\(∀q,aV Q q=true->X.g v q V.b (as q).1 (as q).2/\(as q).1.b<V.b)/\
   ((∀q,aV Q q=true->(as q).1.b=0/\ga n (as q).2 V.a)/\V.m=Q\/∃q,aV Q q=true/\(as q).1.b≠0/\(∀p,aV Q p=true->(as p).1.b<=(as q).1.b)/\V.m=(as q).1.m/\V.a=(as q).1.a)
 f:∀v q b U r,X.g v q b U r->(U.b=0\/X.f v q U.b/\X.e v U)/\0<=U.b/\U.b<=b/\(∀b',X.f v q b'->b'<b->b'<=U.b)/\fl X.C n v r
 i:∀(u:Nat)m c,X.D[u]?=some (m,c)->∃b Q,X.e u ⟨b,m,c⟩/\lT Q (X.a n u)/\nI (X.a n u) Q/\∀q,aV Q q=true->X.f u q b
 a:∀v V,X.e v V->lT V.m (X.a n v)/\nI (X.a n v) V.m/\bj V.m/\V.a.length=n/\fl X.C n v V.a/\0<V.b/\0<=v/\v.toNat<=X.D.length
 d:∀v m,(v,m)∈X.C->0<=v/\v.toNat<=X.D.length/\aV (X.a n v) m.a.toNat=true/\1<=m.seq/\m.c.getD m.a.toNat 0=m.seq
 e:∀v m,(v,m)∈X.C->m.c.length=n/\fl X.C n v (m.c.set m.a.toNat (m.seq-1))
 g:∀v m m',(v,m)∈X.C->(v,m')∈X.C->m.a=m'.a->m.seq=m'.seq->m=m'
variable {X X':Gh}{n:Nat}
def XI.s(h:XI X n)(d:X.e v V)(r:lT Q (X.a n v))(w:nI (X.a n v) Q)(x:∀q,aV Q q=true->X.f v q V.b):∀(k:Nat)(a:Vote),X.e v a->V.b<=a.b->a.b.toNat<=k->a.m=V.m/\a.a=V.a:=by
 intro k;induction k with
 |zero=>intro a c _ l;have:=(h.a v a c).2.2.2.2.2.1;omega
 |succ k A=>
  intro a c H l;by_cases e:V.b=a.b;rw[h.k v V a d c e];simp;have i:V.b<a.b:=ω;obtain⟨I,B,t,o,f,g⟩:=h.h v a c;obtain⟨q,E,s⟩:=wL r t w o;have y:=h.f v q _ _ _ (f q s).1;have F:=(h.a v V d).2.2.2.2.2.1;rcases g with ⟨g,-⟩|⟨p,u,j,G,C,z⟩;grind;have D:=(h.f v p _ _ _ (f p u).1).1.resolve_left j;grind
def XI.x(h:XI X n){u:Nat}{m:Int}{c:Υ}(j:X.D[u]?=some (m,c))(d:X.e u V)(i:lT Q (X.a n u))(o:nI (X.a n u) Q)(g:∀q,aV Q q=true->X.f u q V.b):V.m=m/\V.a=c:=by let⟨b,p,e,l,f,k⟩:=h.i u m c j;rcases Int.le_total V.b b with a|a;have:=h.s d i o g _ _ e a (Nat.le_refl _);grind;exact h.s e l f k _ V d a (Nat.le_refl _)
def At(S:PS)(v:Int):Prop:=S.b=v/\S.out=false
structure Wd where
 gd:Int->Nat->Int->Prop
 tr:Int->Nat->Υ->Prop
def wd(X:Gh)(n:Nat)(st:Nat->PS):Wd where
 gd v s k:=s<n->∀q,q<n->aV (X.a n v) q=true->v<=(st q).b/\(At (st q) v->k<=(st q).Ml.getD s 0)
 tr v q r:=q<n->∀s,s<n->0<r.getD s 0->v<=(st q).b/\(At (st q) v->r.getD s 0<=(st q).Ml.getD s 0)
variable {Γ Γ':Wd}
structure Wd.a(X:Gh)(Γ Γ':Wd):Prop where
 b:∀v s k,0<=v->v.toNat<=X.D.length->Γ.gd v s k->Γ'.gd v s k
 a:∀v q r,Γ.tr v q r->Γ'.tr v q r
def gj(Γ:Wd)(n:Nat)(v:Int)(ms:List Msg)(r:Υ):Prop:=∀s:Nat,s<n->∀k:Int,1<=k->k<=r.getD s 0->(∃m∈ms,m.a=s/\m.seq=k)\/Γ.gd v s k
structure qn(i:Nat)(X X':Gh):Prop where
 C:∀x∈X.C,x∈X'.C
 D:∃l,X'.D=X.D++l
 pr:∀v V,X.e v V->X'.e v V
 f:∀v V,X'.e v V->X.e v V\/V.b%8=i
 an:∀v q b U r,X.g v q b U r->X'.g v q b U r
 g:∀v q b U r,X'.g v q b U r->X.g v q b U r\/q=i
 vt:∀v q b,X.f v q b->X'.f v q b
 h:∀v q b,X'.f v q b->X.f v q b\/q=i
def qn.c(i:Nat)(X:Gh):qn i X X:=⟨λ_ h=>h,⟨[],ς⟩,λ_ _ h=>h,λ_ _ h=>.inl h,λ_ _ _ _ _ h=>h,λ_ _ _ _ _ h=>.inl h,λ_ _ _ h=>h,λ_ _ _ h=>.inl h⟩
def qn.e{i:Nat}(h:qn i X X')(a:v.toNat<=X.D.length):X'.a n v=X.a n v:=by let⟨l,e⟩:=h.D;unfold Gh.a;grind
end
variable {X X':Gh}{n i:Nat}{Γ Γ':Wd}{S T:PS}{f:Frame}{v' k:Int}{ms ms':List Msg}{r r':Υ}{st:Nat->PS}{j:Nat}{N:Frame->Prop}
def tB(q n:Nat)(v m:Int)(e:Ev)(v' m':Int)(o:Bool):Prop:=
 (e.b=3/\e.a=v+1/\aV e.c q=true/\nI m e.c/\lT e.c m/\bj e.c/\v'=e.a/\m'=e.c/\o=false)\/
 (e.b≠3/\e.a=v/\(∃s:Nat,s<n/\e.d=s/\(e.b=4\/aV m s=true))/\v'=v/\m'=m/\o=(e.b==4))
def Chn(q n:Nat):Int->Int->Bool->List Ev->Int->Int->Bool->Prop
 |v,m,o,[],v',m',o'=>v=v'/\m=m'/\o=o'
 |v,m,o,e::l,v',m',o'=>o=false/\∃v1 m1 o1,tB q n v m e v1 m1 o1/\Chn q n v1 m1 o1 l v' m' o'
def Chn.a{q:Nat}{e:Ev}{p g:Int}{s:Bool}(d:tB q n v' k e p g s):∀{l:List Ev}{v m:Int}{o:Bool},Chn q n v m o l v' k false->Chn q n v m o (l++[e]) p g s
 |[],_,_,_,h=>by obtain⟨rfl,rfl,rfl⟩:=h;exact⟨rfl,_,_,_,d,rfl,rfl,rfl⟩
 |_::_,_,_,_,⟨t,a,b,c,w,u⟩=>⟨t,a,b,c,w,Chn.a d u⟩
structure EvJ(X:Gh)(n:Nat)(S:PS):Prop where
 b:Chn S.c n 0 (2^n-1) false S.j S.b S.m S.out
 a:∀u:Nat,(u:Int)<S.b->∃m c,X.D[u]?=some (m,c)/\(∀s:Nat,s<n->∀k:Int,1<=k->k<=c.getD s 0->∃e∈S.j,msgE e/\e.a=u/\e.d=s/\e.seq=k)/\∀e∈S.j,msgE e->e.a=u->∀s:Nat,e.d=s->e.seq<=c.getD s 0
 inst:∀e∈S.j,e.b=3->∃u:Nat,e.a=u+1/\(u:Int)<S.b/\∃c,X.D[u]?=some (e.c,c)
structure BI(X:Gh)(Γ:Wd)(n i:Nat)(S:PS)(B:Bal):Prop where
 num:B.g=S.g
 c:0<B.g
 d:B.g%8=i
 g:S.h=true
 e:lT B.a S.m
 gath:B.e=true->(∀V,X.e S.b V->V.b≠B.g)/\lT B.c B.a/\(∀a∈B.i,∃q,aV B.c q=true/\X.g S.b q B.g a.2 a.1/\gj Γ n S.b S.o a.1/\(a.2.b≠0->gj Γ n S.b S.o a.2.a))/\∀q,aV B.c q=true->∃a∈B.i,X.g S.b q B.g a.2 a.1
 vote:B.e=false->S.a.b=B.g/\lT B.d S.m/\∀q,aV B.d q=true->X.f S.b q B.g
structure PJ(X:Gh)(Γ:Wd)(n i:Nat)(S:PS):Prop where
 c:S.b.toNat<=X.D.length
 mem:S.m=X.a n S.b
 a:aV S.m i=true
 left:∀(u:Nat)e,S.i[u]?=some e->X.D[u]?=some (e.m,e.a)/\gj Γ n u e.b e.a
 vt:∀v b,X.f v i b->v<=S.b/\(v=S.b->b<=S.a.b)
 an:∀v b U r,X.g v i b U r->v<=S.b/\(v=S.b->b<=S.g/\S.h=true/\S.Ml=r)
 pr:∀v V,X.e v V->V.b%8=i->v<=S.b/\(v=S.b->V.b<=S.g)
 vote:S.a.b<=S.g/\(S.a.b≠0->X.f S.b i S.a.b/\X.e S.b S.a/\gj Γ n S.b S.o S.a.a)
 lead:∀B,S.d=some B->BI X Γ n i S B
 row:fl X.C n S.b S.Ml/\gj Γ n S.b S.o S.Ml
 kn:∀q,q<n->aV S.m q=true->Γ.tr S.b q (S.q.getD q [])
structure PI2(X:Gh)(Γ:Wd)(n i:Nat)(S:PS):Prop where
 b:Wf S
 a:CI X.C S
 num:S.c=i
 c:S.n=n
 e:EvJ X n S
 g:S.b.toNat<=X.D.length
 d:S.out=false->PJ X Γ n i S
structure qC(X:Gh)(Γ:Wd)(n:Nat)(f:Frame):Prop where
 a:Codec.dg f=true
 dst:∃q:Nat,q<n/\f.j=q
 b:Ih X.C f
 g:0<=f.h/\f.h.toNat<=X.D.length
 row:f.c=1\/f.c=2\/f.c=4->Γ.tr f.h f.f.toNat f.g
 e:f.c=4->X.g f.h f.f.toNat f.a ⟨f.e,f.b,f.i⟩ f.g/\gj Γ n f.h f.d f.g/\(f.e≠0->gj Γ n f.h f.d f.i)
 d:f.c=5->X.e f.h ⟨f.a,f.b,f.i⟩/\f.a%8=f.f/\gj Γ n f.h f.d f.i
 l:f.c=6->X.f f.h f.f.toNat f.a
 c:f.c=7->X.D[f.h.toNat]?=some (f.b,f.i)/\gj Γ n f.h f.d f.i
def fl.a{C a:List (Int×Msg)}(h:fl C n v r)(e:∀x∈C,x∈a):fl a n v r:=λs d k c b=>(h s d k c b).imp λ_ h=>⟨e _ h.1,h.2⟩
def gj.b(h:gj Γ n v ms r)(e:Wd.a X Γ Γ')(c:0<=v)(g:v.toNat<=X.D.length):gj Γ' n v ms r:=λs d k b a=>(h s d k b a).imp id (e.b _ _ _ c g)
def gj.a(h:gj Γ n v ms r)(l:∀m∈ms,∃x∈ms',x.a=m.a/\x.seq=m.seq):gj Γ n v ms' r:=λs g k e d=>(h s g k e d).imp (λ⟨m,a,b,c⟩=>by grind) id
def qn.a{u:Nat}{y:Int×Υ}(e:qn i X X')(h:X.D[u]?=some y):X'.D[u]?=some y:=by let⟨l,e⟩:=e.D;grind
def qn.d(e:qn i X X'):X.D.length<=X'.D.length:=by let⟨l,e⟩:=e.D;grind
def qC.h(h:qC X Γ n f)(e:qn i X X')(a:Wd.a X Γ Γ'):qC X' Γ' n f:=by have c:∀{r},gj Γ n _ _ r->gj Γ' n _ f.d r:=λk=>k.b a h.g.1 h.g.2;exact⟨h.a,h.dst,λm b=>e.C _ (h.b m b),⟨h.g.1,Nat.le_trans h.g.2 e.d⟩,λk=>a.a _ _ _ (h.row k),λk=>⟨e.an _ _ _ _ _ (h.e k).1,c (h.e k).2.1,λx=>c ((h.e k).2.2 x)⟩,λk=>⟨e.pr _ _ (h.d k).1,(h.d k).2.1,c (h.d k).2.2⟩,λk=>e.vt _ _ _ (h.l k),λk=>⟨e.a (h.c k).1,c (h.c k).2⟩⟩
def EvJ.h(h:EvJ X n S)(e:qn i X X'):EvJ X' n S:=⟨h.b,λu o=>by
 let⟨m,c,b,a⟩:=h.a u o;exact⟨m,c,e.a b,a⟩,λy d l=>by
 let⟨u,b,a,c,g⟩:=h.inst y d l;exact⟨u,b,a,c,e.a g⟩⟩
def PI2.l(h:PI2 X Γ n j S)(e:qn i X X')(o:Wd.a X Γ Γ')(A:j≠i)(H:∀x∈X'.C,x∈X.C\/x.2.a=(i:Int)):PI2 X' Γ' n j S:=by
 have c:∀{D r},gj Γ n _ D r->gj Γ' n _ D r:=λk=>k.b o h.b.view.1 h.g;have m:¬((i:Int)=j):=ω;refine⟨h.b,h.a.more e.C λx I=>(H x I).imp id λe=>?_,h.num,h.c,h.e.h e,Nat.le_trans h.g e.d,λG=>?_⟩;rw[e,h.num];exact m;have p:=h.d G;refine⟨Nat.le_trans p.c e.d,by rw[e.e p.c];exact p.mem,p.a,λu y s=>⟨e.a (p.left u y s).1,(p.left u y s).2.b o ω ?_⟩,λv b k=>?_,λv b U r k=>?_,λv V k z=>?_,⟨p.vote.1,λk=>?_⟩,λB E=>?_,⟨p.row.1.a e.C,c p.row.2⟩,λq l z=>o.a _ _ _ (p.kn q l z)⟩;have:=(List.getElem?_eq_some_iff.1 (p.left u y s).1).1;omega;exact p.vt v b ((e.h _ _ _ k).resolve_right A);exact p.an v b U r ((e.g _ _ _ _ _ k).resolve_right A);exact p.pr v V ((e.f _ _ k).resolve_right λk=>m ω) z;let⟨a,b,d⟩:=p.vote.2 k;exact⟨e.vt _ _ _ a,e.pr _ _ b,c d⟩;have b:=p.lead B E;refine⟨b.num,b.c,b.d,b.g,b.e,λg=>?_,λg=>⟨(b.vote g).1,(b.vote g).2.1,λq l=>e.vt _ _ _ ((b.vote g).2.2 q l)⟩⟩;let⟨R,F,K,M⟩:=b.gath g;refine⟨λV k W=>?_,F,λa O=>?_,λq l=>?_⟩
 .rcases e.f _ _ k with k|k;grind;have:=b.d;omega
 let⟨q,w,t,P,Q⟩:=K a O;exact⟨q,w,e.an _ _ _ _ _ t,c P,λx=>c (Q x)⟩;let⟨a,w,t⟩:=M q l;exact⟨a,w,e.an _ _ _ _ _ t⟩
def dL(st:Nat->PS)(i:Nat)(T:PS):Nat->PS:=λj=>if j=i then T else st j
def bc(a:Nat->PS)(i:Nat)(T:PS):dL a i T i=T:=if_pos rfl
def jm{T:PS}(h:j≠i):dL st i T j=st j:=if_neg h
def eG{T U:PS}:dL (dL st i T) i U=dL st i U:=by unfold dL;grind
structure SI(X:Gh)(n:Nat)(st:Nat->PS)(N:Frame->Prop):Prop where
 c:XI X n
 a:∀i,i<n->PI2 X (wd X n st) n i (st i)
 a4:∀f,N f->qC X (wd X n st) n f
 snt:∀i,i<n->∀f∈(st i).e,qC X (wd X n st) n f
def On(n:Nat)(S T:PS):Prop:=S.b<=T.b/\∀v,At T v->v=S.b->At S v/\ga n S.Ml T.Ml
def pI(e:qn i X X')(h:On n (st i) T):Wd.a X (wd X n st) (wd X' n (dL st i T)):=by
 have c:∀q v,v<=(st q).b->v<=(dL st i T q).b/\(At (dL st i T q) v->At (st q) v/\ga n (st q).Ml (dL st i T q).Ml):=λq v l=>by
  by_cases e:q=i
  subst e;rw[bc];refine⟨Int.le_trans l h.1,λd=>h.2 v d ?_⟩;have:=h.1;have:=d.1;omega;rw[jm e];exact⟨l,λh=>⟨h,λ_ _=>Int.le_refl _⟩⟩
 refine⟨λv s k _ l o g q m p=>?_,λv q r o m s g t=>?_⟩;rw[e.e l]at p;let⟨a,b⟩:=o g q m p;refine⟨(c q v a).1,λd=>?_⟩;have:=(c q v a).2 d;exact Int.le_trans (b this.1) (this.2 s g);let⟨a,b⟩:=o m s g t;refine⟨(c q v a).1,λd=>?_⟩;have:=(c q v a).2 d;exact Int.le_trans (b this.1) (this.2 s g)
def SI.e(h:SI X n st N)(e:qn i X X')(o:∀x∈X'.C,x∈X.C\/x.2.a=(i:Int))(l:On n (st i) T)(m:XI X' n)(g:i<n->PI2 X' (wd X' n (dL st i T)) n i T)(d:i<n->∀f∈T.e,f∈(st i).e\/qC X' (wd X' n (dL st i T)) n f):SI X' n (dL st i T) N:=by
 have c:=pI e l;refine⟨m,λj b=>?_,λf a=>(h.a4 f a).h e c,λj b f a=>?_⟩
 .by_cases q:j=i
  subst q;rw[bc];exact g b;rw[jm q];exact(h.a j b).l e c q o
 by_cases q:j=i
 subst q;rw[bc]at a;exact(d b f a).elim (λk=>(h.snt j b f k).h e c) id;rw[jm q]at a;exact(h.snt j b f a).h e c
def On.a(e:T.b=S.b)(c:T.out=S.out)(d:T.Ml=S.Ml):On n S T:=⟨ω,λv⟨a,b⟩_=>⟨⟨ω,c▸b⟩,λs _=>ν⟩⟩
def fL(c:T.b=(st i).b)(d:T.out=(st i).out)(b:T.Ml=(st i).Ml):wd X n (dL st i T)=wd X n st:=by
 have a:∀q,(dL st i T q).b=(st q).b/\(dL st i T q).Ml=(st q).Ml/\∀v,At (dL st i T q) v=At (st q) v:=λq=>by
  by_cases e:q=i
  subst e;rw[bc];exact⟨c,b,λv=>by unfold At;grind⟩;rw[jm e];simp
 unfold wd;grind
def SI.b(h:SI X n st N)(d:T.b=(st i).b)(c:T.out=(st i).out)(a:T.Ml=(st i).Ml)(e:i<n->PI2 X (wd X n st) n i T)(b:i<n->∀f∈T.e,f∈(st i).e\/qC X (wd X n st) n f):SI X n (dL st i T) N:=
 h.e (.c i X) (λ_ h=>.inl h) (.a d c a) h.c (by rw[fL d c a];exact e) (by rw[fL d c a];exact b)
end
end Go.Proofs.Y.Md
namespace Go.Proofs.Y.Mo
section
open Codec (Msg Frame)
variable {n j k q:Nat}{G:List Msg}{f:Frame}{m:Msg}

variable{l FL FL':List Frame}{outs:Nat->List Frame}{row:Υ}
def mh:∀(k:Nat)(l:List Nat),l.Nodup->(∀x∈l,x<k)->l.length<=k
 |0,l,_,h=>by
   cases l with
   |nil=>simp
   |cons x l=>exact absurd (h x ς) ω
 |k+1,l,a,h=>by
   by_cases d:k∈l
   .have c:=mh k _ (a.erase k) λx b=>by grind
    grind
   have:=mh k l a λx b=>by grind
   omega
