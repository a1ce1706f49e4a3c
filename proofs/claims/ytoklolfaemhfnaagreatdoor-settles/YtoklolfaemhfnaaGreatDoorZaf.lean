import Derived.Test.YtoklolfaemhfnaaGreatDoorZ0
set_option maxRecDepth 100000
set_option maxHeartbeats 0
set_option linter.defProp false
section
def ω{p:Prop}(h:p:=by omega):p:=h
def ς{p:Prop}(h:p:=by simp):p:=h
def θ{p:Prop}(h:p:=by decide):p:=h
def ν{p:Prop}(h:p:=by grind):p:=h
def ϕ{q p:Prop}(h:q)(k:q->p:=by omega):p:=k h
def ϵ{r q p:Prop}(g:r)(h:q)(k:r->q->p:=by omega):p:=k g h
def ϰ{q p:Prop}(h:q)(k:q=p:=by simp):p:=k▸h
end
namespace Go.Proofs.Y.Crc
section
variable {bs:Ϭ}{l:Υ}{i:Nat}
def sh(w:Nat):Nat:=if w%2=1 then (w/2)^^^0xEDB88320 else w/2
def uX:Nat->Nat->Nat
 |0,w=>w
 |t+1,w=>sh (uX t w)
def start:Nat:=4294967295
def xG(bs:Ϭ):Nat:=bs.foldl (λw b=>uX 8 (w^^^b.toNat)) start
def zU(bs:Ϭ):Nat:=xG bs^^^4294967295
def eH(w j:Nat):(sh w).testBit j=(w.testBit (j+1)^^(w.testBit 0&&(0xEDB88320:Nat).testBit j)):=by unfold sh;grind
def Dy(w:Nat)(h:w<4294967296):sh w<4294967296:=by unfold sh;split;exact Nat.xor_lt_two_pow (n:=32) ω ω;lia
def la(t w:Nat)(h:w<4294967296):uX t w<4294967296:=by
 induction t with
 |zero=>exact h
 |succ t a=>exact Dy _ a
def Dw(a:Ϭ)(b:UInt8):xG (a++[b])=uX 8 (xG a^^^b.toNat):=by simp[xG]
def Dv(a:Ϭ):xG a<4294967296:=by
 suffices ∀(l:Ϭ)(w:Nat),w<4294967296->l.foldl (λw b=>uX 8 (w^^^b.toNat)) w<4294967296 from this a _ θ;intro l;induction l with
 |nil=>simp
 |cons b l c=>
  intro w h;exact c _ (la _ _ (Nat.xor_lt_two_pow (n:=32) ω (ϕ b.toNat_lt)))
def po(a:Ϭ)(k:Nat)(h:k<a.length):a.take (k+1)=a.take k++[a.getD k 0]:=by simp_all
def uU(a:Ϭ)(k:Nat)(h:k<a.length):xG (a.take (k+1))=uX 8 (xG (a.take k)^^^(a.getD k 0).toNat):=by rw[po a k h,Dw]
def sZ(a:Ϭ):zU a<4294967296:=Nat.xor_lt_two_pow (n:=32) (Dv a) ω
end
end Go.Proofs.Y.Crc
namespace Go.Proofs.Y.Codec
section
variable {x y:Nat}{n:Int}
structure Msg where
 a:Int
 seq:Int
 c:Υ
 b:ϝ
structure Frame where
 c:Int
 f:Int
 j:Int
 b:Int
 h:Int
 a:Int
 e:Int
 g:Υ
 i:Υ
 d:List Msg
def iq(n low high:Int):Bool:=decide (low<=n)&&decide (n<=high)
def aA(l:Υ):Bool:=decide (l.length<=6)&&l.all λn=>iq n 0 20
def aK(m:Msg):Bool:=iq m.a 0 5&&iq m.seq 1 20&&aA m.c&&decide (m.b.size<=16)
def cd(l:List Msg):Bool:=decide (l.length<=200)&&l.all aK
def dk(f:Frame):Bool:=iq f.c 1 7&&iq f.f 0 5&&iq f.j 0 5&&iq f.b 0 63
def bS(f:Frame):Bool:=iq f.h 0 2147483647&&iq f.a 0 2147483647&&iq f.e 0 2147483647
def dg(f:Frame):Bool:=dk f&&bS f&&aA f.g&&aA f.i&&cd f.d
def de{b a:Int}:iq n b a=true↔b<=n/\n<=a:=by simp[iq]
def b8(n:Int):UInt8:=UInt8.ofNat n.toNat
def ca(b:0<=n)(a:n<256):((b8 n).toNat:Int)=n:=by simp[b8];lia
def cj(n:Nat):Ϭ:=[UInt8.ofNat (n/16777216),UInt8.ofNat (n/65536),UInt8.ofNat (n/256),UInt8.ofNat n]
def dH(l:Υ):Ϭ:=UInt8.ofNat l.length::l.map b8
def pn(m:Msg):Ϭ:=[b8 m.a,b8 m.seq]++dH m.c++[UInt8.ofNat m.b.size]++m.b.data.toList
def ef(l:List Msg):Ϭ:=(l.map pn).flatten
def gT(f:Frame):Ϭ:=
 [b8 f.c,b8 f.f,b8 f.j,b8 f.b]++cj f.h.toNat++cj f.a.toNat++cj f.e.toNat++dH f.g++dH f.i++[UInt8.ofNat f.d.length]++ef f.d
def im(f:Frame):Ϭ:=gT f++cj (Crc.zU (gT f))
def xE(l:List Msg)(m:Msg):ef (l++[m])=ef l++pn m:=by simp[ef]
def eW:Ϭ->Int×Ϭ
 |[]=>(0,[])
 |b::r=>((b.toNat:Int),r)
def gM:Nat->Ϭ->Υ×Ϭ
 |0,s=>([],s)
 |n+1,s=>((eW s).1::(gM n (eW s).2).1,(gM n (eW s).2).2)
def mW(s:Ϭ):Υ×Ϭ:=gM (eW s).1.toNat (eW s).2
def ky(s:Ϭ):Int×Ϭ:=
 ((((eW s).1*256+(eW (eW s).2).1)*256+(eW (eW (eW s).2).2).1)*256+(eW (eW (eW (eW s).2).2).2).1,(eW (eW (eW (eW s).2).2).2).2)
def uR(s:Ϭ):ϝ×Ϭ:=(⟨((eW s).2.take (eW s).1.toNat).toArray⟩,(eW s).2.drop (eW s).1.toNat)
def Cz(s:Ϭ):Msg×Ϭ:=
 let a:=eW s
 let b:=eW a.2
 let t:=mW b.2
 let x:=uR t.2
 (⟨a.1,b.1,t.1,x.1⟩,x.2)
def jD:Nat->Ϭ->List Msg×Ϭ
 |0,s=>([],s)
 |n+1,s=>((Cz s).1::(jD n (Cz s).2).1,(jD n (Cz s).2).2)
def bO(s:Ϭ):Frame×Ϭ:=
 let k:=eW s
 let a:=eW k.2
 let b:=eW a.2
 let m:=eW b.2
 let v:=ky m.2
 let u:=ky v.2
 let t:=ky u.2
 let r:=mW t.2
 let c:=mW r.2
 let n:=eW c.2
 let l:=jD n.1.toNat n.2
 (⟨k.1,a.1,b.1,m.1,v.1,u.1,t.1,r.1,c.1,l.1⟩,l.2)
def iB(b:UInt8)(r:Ϭ):eW (b::r)=((b.toNat:Int),r):=rfl
def Bj(l:Υ)(r:Ϭ)(h:l.all (λn=>iq n 0 20)=true):gM l.length (l.map b8++r)=(l,r):=by
 induction l with
 |nil=>rfl
 |cons x l b=>
  simp only[List.all_cons,Bool.and_eq_true]at h;have a:=de.1 h.1;simp only[List.length_cons,List.map_cons,List.cons_append,gM,iB,b h.2,ca a.1 ω]
def mX(l:Υ)(r:Ϭ)(h:aA l=true):mW (dH l++r)=(l,r):=by simp only[aA,Bool.and_eq_true,decide_eq_true_eq]at h;simp only[mW,dH,List.cons_append,iB,(by simp;lia:(UInt8.ofNat l.length).toNat=l.length),Int.toNat_natCast,Bj l r h.2]
def gi(n:Nat)(r:Ϭ)(h:n<4294967296):ky (cj n++r)=((n:Int),r):=by simp only[ky,cj,List.cons_append,List.nil_append,iB];simp;lia
def Bl(t:ϝ)(r:Ϭ)(h:t.size<=16):uR (UInt8.ofNat t.size::(t.data.toList++r))=(t,r):=by simp only[uR,iB,(by simp;lia:(UInt8.ofNat t.size).toNat=t.size),Int.toNat_natCast];simp
def Dt(m:Msg)(r:Ϭ)(h:aK m=true):Cz (pn m++r)=(m,r):=by
 simp only[aK,Bool.and_eq_true,decide_eq_true_eq]at h
 let ⟨⟨⟨e,c⟩,b⟩,a⟩:=h
 have d:=de.1 e;have f:=de.1 c;simp only[Cz,pn,List.cons_append,List.nil_append,List.append_assoc,iB,mX _ _ b,Bl _ _ a,ca d.1 ω,ca (show 0<=m.seq by lia) ω]
def Bi(l:List Msg)(r:Ϭ)(h:l.all aK=true):jD l.length (ef l++r)=(l,r):=by
 induction l with
 |nil=>rfl
 |cons m l a=>
  simp only[List.all_cons,Bool.and_eq_true]at h;rw[(by simp[ef]:ef (m::l)++r=pn m++(ef l++r))];simp only[List.length_cons,jD,Dt m _ h.1,a h.2]
def xD(f:Frame)(r:Ϭ)(h:dg f=true):bO (gT f++r)=(f,r):=by
 simp only[dg,dk,bS,Bool.and_eq_true]at h
 let ⟨⟨⟨⟨⟨⟨⟨m,d⟩,g⟩,i⟩,⟨⟨b,a⟩,c⟩⟩,k⟩,l⟩,j⟩:=h
 rw[de]at m d g i b a c;simp only[cd,Bool.and_eq_true,decide_eq_true_eq]at j;simp only[bO,gT,List.cons_append,List.nil_append,List.append_assoc,iB,gi _ _ (show f.h.toNat<4294967296 by lia),gi _ _ (show f.a.toNat<4294967296 by lia),
  gi _ _ (show f.e.toNat<4294967296 by lia),mX _ _ k,mX _ _ l,(by simp;lia:(UInt8.ofNat f.d.length).toNat=f.d.length),Int.toNat_natCast,Bi _ _ j.2,
  ca (show 0<=f.c by lia) ω,ca d.1 ω,ca g.1 ω,ca i.1 ω]
 rw[Int.toNat_of_nonneg b.1,Int.toNat_of_nonneg a.1,Int.toNat_of_nonneg c.1]
theorem rB(f:Frame)(h:dg f=true):(bO (im f)).1=f:=by rw[im,xD f _ h]
def bM(s:Ϭ):Bool:=dg (bO s).1&&decide (im (bO s).1=s)
def Ia(g:x<4294967296)(f:y<4294967296)(h:Crc.sh x=Crc.sh y):x=y:=by
 have e:∀j,(Crc.sh x).testBit j=(Crc.sh y).testBit j:=λj=>by rw[h]
 have b:∀j,32<=j->x.testBit j=false:=λj a=>Nat.testBit_lt_two_pow (Nat.lt_of_lt_of_le g (Nat.pow_le_pow_right (n:=2) ω a));have c:∀j,32<=j->y.testBit j=false:=λj a=>Nat.testBit_lt_two_pow (Nat.lt_of_lt_of_le f (Nat.pow_le_pow_right (n:=2) ω a));have d:x.testBit 0=y.testBit 0:=by have:=e 31;rw[Crc.eH,Crc.eH,b 32 ω,c 32 ω]at this;have p:0xEDB88320.testBit 31=true:=θ;rw[p]at this;simpa using this
 apply Nat.eq_of_testBit_eq;intro j;cases j with
 |zero=>exact d
 |succ j=>
  have:=e j;rw[Crc.eH,Crc.eH,d]at this;grind
def zS(t:Nat)(b:x<4294967296)(a:y<4294967296)(h:Crc.uX t x=Crc.uX t y):x=y:=by
 induction t with
 |zero=>exact h
 |succ t c=>exact c (Ia (Crc.la t x b) (Crc.la t y a) h)
def kZ{b:Nat}(h:x^^^b=y^^^b):x=y:=by
 have:(x^^^b)^^^b=(y^^^b)^^^b:=by rw[h]
 grind
def Ds(l:Ϭ):∀{x y:Nat},x<4294967296->y<4294967296->
 l.foldl (λw b=>Crc.uX 8 (w^^^b.toNat)) x=l.foldl (λw b=>Crc.uX 8 (w^^^b.toNat)) y->x=y:=by
 induction l with
 |nil=>simp
 |cons b l f=>
  intro x y e d h;have c:x^^^b.toNat<4294967296:=Nat.xor_lt_two_pow (n:=32) e (ϕ b.toNat_lt);have a:y^^^b.toNat<4294967296:=Nat.xor_lt_two_pow (n:=32) d (ϕ b.toNat_lt);exact kZ (zS 8 c a (f (Crc.la 8 _ c) (Crc.la 8 _ a) h))
def FD(p q:Ϭ)(b c:UInt8)(h:Crc.xG (p++b::q)=Crc.xG (p++c::q)):b=c:=by simp only[Crc.xG,List.foldl_append,List.foldl_cons]at h;have a:p.foldl (λw b=>Crc.uX 8 _) _<4294967296:=Crc.Dv p;generalize p.foldl (λw b=>Crc.uX 8 _) _=w at h a;have e:w^^^b.toNat<4294967296:=Nat.xor_lt_two_pow (n:=32) a (ϕ b.toNat_lt);have d:w^^^c.toNat<4294967296:=Nat.xor_lt_two_pow (n:=32) a (ϕ c.toNat_lt);have:=zS 8 e d (Ds q (Crc.la 8 _ e) (Crc.la 8 _ d) h);rw[Nat.xor_comm w,Nat.xor_comm w]at this;exact UInt8.toNat_inj.1 (kZ this)
def FE(p q:Ϭ)(b c:UInt8)(h:Crc.zU (p++b::q)=Crc.zU (p++c::q)):b=c:=
 FD p q b c (kZ h)
def br(n:Nat):(cj n).length=4:=rfl
def Du(A B:Ϭ)(p q:Ϭ)(b c:UInt8)(g:A++cj (Crc.zU A)=p++b::q)(f:B++cj (Crc.zU B)=p++c::q):b=c:=by
 have j:A.length=B.length:=by have d:=congrArg List.length g;have a:=congrArg List.length f;simp[br]at d a;lia
 by_cases u:p.length<A.length
 ·
  have i:A=p++b::q.take (A.length-p.length-1):=by have h:=congrArg (List.take A.length) g;rw[List.take_left]at h;rw[h,List.take_append,List.take_of_length_le ω,List.take_cons ω];simp
  have k:B=p++c::q.take (A.length-p.length-1):=by have h:=congrArg (List.take B.length) f;rw[List.take_left]at h;rw[h,List.take_append,List.take_of_length_le ω,List.take_cons ω];simp[j]
  have o:cj (Crc.zU A)=cj (Crc.zU B):=by have d:=congrArg (List.drop A.length) g;have a:=congrArg (List.drop B.length) f;rw[List.drop_left]at d a;rw[d,a,j,List.drop_append,List.drop_append,List.drop_of_length_le ω];have e:B.length-p.length=(B.length-p.length-1)+1:=ω;rw[e];rfl
  have l:∀n m:Nat,n<4294967296->m<4294967296->cj n=cj m->n=m:=by intro n m s t h;have d:=gi n [] s;have a:=gi m [] t;have:m=n:=ν;lia
  have:=l _ _ (Crc.sZ A) (Crc.sZ B) o;rw[i,k]at this;exact FE _ _ _ _ this
 ·
  have r:A=B:=by have d:=congrArg (List.take A.length) g;have a:=congrArg (List.take B.length) f;rw[List.take_left]at d a;rw[d,a,j,List.take_append_of_le_length ω,List.take_append_of_le_length ω]
  simp_all
def Ib(f:Frame)(p q:Ϭ)(b c:UInt8)(d:im f=p++b::q)(a:c≠b):bM (p++c::q)=false:=by cases h:bM _;rfl;simp only[bM,Bool.and_eq_true,decide_eq_true_eq]at h;exact absurd (Du _ _ _ _ _ _ h.2 d) a
end
end Go.Proofs.Y.Codec
section
namespace Go.Proofs.Y
structure Ev where
 b:Int
 a:Int
 d:Int
 seq:Int
 c:Int
 e:ϝ
namespace Mo
open Codec (Msg Frame)
def gv(l:List Msg):Prop:=l.Pairwise λx y=>¬(x.a=y.a/\x.seq=y.seq)
end Mo
end Go.Proofs.Y
end
namespace Go.Proofs.Y.Mo
section
open Codec (Msg Frame)
variable {n j k q:Nat}{G:List Msg}{f:Frame}{m:Msg}

variable{l FL FL':List Frame}{outs:Nat->List Frame}{row:Υ}
def mh:∀(k:Nat)(l:Ϙ),l.Nodup->(∀x∈l,x<k)->l.length<=k
 |0,l,_,h=>by
   cases l with
   |nil=>simp
   |cons x l=>exact absurd (h x ς) ω
 |k+1,l,a,h=>by
   by_cases d:k∈l
   .have c:=mh k _ (a.erase k) λx b=>by grind
    grind
   have:=mh k l a λx b=>by grind
   lia
end
end Go.Proofs.Y.Mo
section
namespace Go.Proofs.Y.Md
open Codec (Msg Frame)
structure Vote where
 b:Int
 m:Int
 a:Υ
structure Bal where
 g:Int
 e:Bool
 out:Int
 a:Int
 c:Int
 d:Int
 i:List (Υ×Vote)
structure Lft where
 m:Int
 a:Υ
 b:List Msg
structure PS where
 c:Nat
 n:Nat
 r:Nat
 f:Bool
 out:Bool
 h:Bool
 b:Int
 m:Int
 k:Int
 g:Int
 a:Vote
 d:Option Bal
 q:List (Υ)
 o:List Msg
 i:List Lft
 j:List Ev
 e:List Frame
def aV(set:Int)(q:Nat):Bool:=decide (set/2^q%2=1)
def cX(a b:Int):Int:=((a.toNat^^^(a.toNat&&&b.toNat):Nat):Int)
def fK(a b:Int):Int:=((a.toNat&&&b.toNat:Nat):Int)
def j9(a b:Int):Int:=((a.toNat|||b.toNat:Nat):Int)
def aO(q:Nat):Int:=((2^q:Nat):Int)
def iX(set:Int)(n:Nat):Ϙ:=(List.range n).filter (aV set)
def ir(set:Int):Nat:=(iX set 6).length
def Ik(set:Int):Nat:=(iX set 6).headD 64
def eA(s q:Int)(m:Msg):Bool:=m.a==s&&m.seq==q
def FP(mem:Int)(kn:List (Υ))(s:Nat)(q:Int):Bool:=(List.range kn.length).all λi=>!(aV mem i&&decide ((kn.getD i []).getD s 0<q))
def dB(a row:Υ):Υ:=(List.range a.length).map λs=>max (a.getD s 0) (row.getD s 0)
def aR(cut:Υ)(m:Msg):Bool:=decide (m.seq<=cut.getD m.a.toNat 0)
def Hk(row time:Υ)(s:Nat):Bool:=(List.range row.length).all λq=>decide (q=s)||decide (time.getD q 0<=row.getD q 0)
def jl(a b:Msg):Bool:=decide (a.a<b.a)||(decide (a.a=b.a)&&decide (a.seq<=b.seq))
def Ke(m:Msg):List Msg->List Msg
 |[]=>[m]
 |x::l=>if jl m x then m::x::l else x::Ke m l
def z7(l:List Msg):List Msg:=l.foldr Ke []
namespace PS
def Ml(S:PS):Υ:=S.q.getD S.c []
def MC(S:PS):Int:=if S.f then 6 else if S.out then 7 else 0
def Nh(S:PS)(m:Msg):Bool:=FP S.m S.q m.a.toNat m.seq
def M1(S:PS):PS:={S with o:=S.o.filter λm=>!S.Nh m}
def My(S:PS)(q:Nat)(row:Υ):PS:=M1 {S with q:=S.q.set q (dB (S.q.getD q []) row)}
def MX(S:PS)(m:Msg):PS:=if S.o.any (eA m.a m.seq)||S.Nh m|| !aV S.m m.a.toNat then S else {S with o:=S.o++[m]}
def Mc(S:PS)(l:List Msg):PS:=l.foldl MX S
def Mp(S:PS):List Msg:=z7 S.o
def Mm(S:PS)(cut:Υ):List Msg:=S.Mp.filter (aR cut)
def Ng(S:PS)(e:Ev):PS:={S with j:=S.j++[e]}
def Ms(S:PS)(m:Msg)(kind:Int):PS:=Ng {S with q:=S.q.set S.c (S.Ml.set m.a.toNat m.seq)} ⟨kind,S.b,m.a,m.seq,0,m.b⟩
def M9(S:PS)(cut:Υ)(q:Nat):Option Msg:=(S.o.find? (eA q (S.Ml.getD q 0+1))).filter λm=>aR cut m&&Hk S.Ml m.c q
def Mh(S:PS)(cut:Υ):Option Msg:=(List.range S.n).findSome? (S.M9 cut)
def Mt:Nat->PS->Υ->PS
 |0,S,_=>S
 |k+1,S,cut=>match S.Mh cut with
   |none=>S
   |some m=>Mt k (S.Ms m 2).M1 cut
def Mb(S:PS)(cut:Υ):PS:=Mt 121 S cut
def MG(S:PS):PS:=S.Mb (List.replicate S.n 20)
def MZ(S:PS)(f:Frame):PS:=if Codec.dg {f with f:=S.c} then {S with e:=S.e++[{f with f:=S.c}]} else S
def L8(S:PS):Ϙ:=iX (cX S.m (aO S.c)) S.n
def MN(S:PS)(q:Nat)(m:Msg):PS:=S.MZ ⟨1,0,q,0,S.b,0,0,S.Ml,[],[m]⟩
def gossip(S:PS)(q:Nat):PS:=S.MZ ⟨2,0,q,0,S.b,S.g,0,S.Ml,[],[]⟩
def Nl(S:PS)(q:Nat)(m:Msg):Bool:=decide ((S.q.getD q []).getD m.a.toNat 0<m.seq)
def Mz(S:PS)(q:Nat):PS:=S.Mp.foldl (λT m=>if S.Nl q m then T.MN q m else T) S
def suspect(S:PS)(set:Int):PS:={S with k:=j9 S.k (cX (fK set S.m) (aO S.c))}
def MY(S:PS)(b:Int):Bool:=S.d.any λl=>l.g==b
def MH(S:PS)(b:Int):PS:={S with g:=b,d:=if S.MY b then S.d else none}
def Mx(S:PS)(b:Int):PS:={S.MH b with h:=true}
def Nj(S:PS)(set:Int):Bool:=decide (ir S.m<2*ir set)
def Na(S:PS):PS:=Ng {S with out:=true} ⟨4,S.b,0,0,0,⟨#[]⟩⟩
def enter(S:PS)(m:Int):PS:=
 Ng {S with b:=S.b+1,m:=m,k:=fK S.k m,h:=false,g:=0,a:=⟨0,0,[]⟩,d:=none,q:=S.q.map λr=>List.replicate r.length 0,o:=[]} ⟨3,S.b+1,0,0,m,⟨#[]⟩⟩
def M6(S:PS)(m:Int)(cut:Υ):PS:={S with i:=S.i++[⟨m,cut,S.Mm cut⟩]}
def install(S:PS)(m:Int)(cut:Υ):PS:=if aV m S.c then ((S.Mb cut).M6 m cut).enter m else ((S.Mb cut).M6 m cut).Na
def ME(S:PS)(q:Nat)(view:Int)(e:Lft):PS:=S.MZ ⟨7,0,q,e.m,view,0,0,[],e.a,e.b⟩
end PS
def Bal.h(b:Bal):Vote:=b.i.foldl (λv a=>if v.b<a.2.b then a.2 else v) ⟨0,0,[]⟩
def Bal.j(b:Bal):Υ:=b.i.foldl (λc a=>dB c a.1) (b.i.headD ([],⟨0,0,[]⟩)).1
def Bal.b(b:Bal):Vote:=if b.h.b=0 then ⟨b.g,b.a,b.j⟩ else {b.h with b:=b.g}
def Bal.f(b:Bal)(q:Nat)(a:Υ×Vote):Bal:={b with c:=j9 b.c (aO q),i:=b.i++[a]}
namespace PS
def Mi(S:PS)(b:Bal):PS:=(iX (cX b.a b.c) S.n).foldl (λT(q:Nat)=>T.MZ ⟨3,0,q,b.out,T.b,b.g,0,[],[],[]⟩) S
def Mj(S:PS)(b:Bal):PS:=(iX (cX b.a b.d) S.n).foldl (λT(q:Nat)=>T.MZ ⟨5,0,q,T.a.m,T.b,b.g,0,[],T.a.a,S.Mm S.a.a⟩) S
def MF(S:PS):PS:=S.L8.foldl (λT q=>T.ME q T.b ⟨S.a.m,S.a.a,S.Mm S.a.a⟩) S
def installIf(S:PS)(b:Bal):PS:=if S.Nj b.d then S.MF.install S.a.m S.a.a else S
def MA(S:PS)(b:Bal):PS:=
 if b.c=b.a&&S.Nj b.c then
  let c:={b with e:=false,d:=aO S.c}
  ({S with d:=some c,a:=b.b}.Mj c).installIf c
 else S
def M5(S:PS):PS:=
 let T:=S.Mx ((S.g/8+1)*8+S.c)
 let b:Bal:=Bal.f ⟨T.g,true,T.k,cX T.m T.k,0,0,[]⟩ S.c (T.Ml,T.a)
 ({T with d:=some b}.Mi b).MA b
def Mr(S:PS)(b:Bal):PS:=if b.e then S.Mi b else S.Mj b
def M4(S:PS):Bool:=decide (S.k≠0)&&decide (Ik (cX S.m S.k)=S.c)
def Nb(S:PS):Bool:=S.d.all λb=>decide (b.out≠S.k)
def Me(S:PS):PS:=if S.M4&&S.Nb&&decide (S.g<2147483640) then S.M5 else match S.d with
 |some b=>S.Mr b
 |none=>S
def MR(S:PS)(f:Frame):PS:=
 if f.a<S.g then S else
  let T:=(S.Mx f.a).suspect f.b
  T.MZ ⟨4,0,f.f,T.a.m,T.b,f.a,T.a.b,T.Ml,T.a.a,T.Mp⟩
def Mv(S:PS)(f:Frame):PS:=match S.d with
 |none=>S
 |some b=>if b.g=f.a&&b.e&&aV (cX b.a b.c) f.f.toNat then
  let c:=b.f f.f.toNat (f.g,⟨f.e,f.b,f.i⟩)
  {(S.My f.f.toNat f.g).Mc f.d with d:=some c}.MA c
   else S
def MK(S:PS)(f:Frame):PS:=
 if f.a<S.g then S else
  ({S.Mx f.a with a:=⟨f.a,f.b,f.i⟩}.Mc f.d).MZ ⟨6,0,f.f,0,S.b,f.a,0,[],[],[]⟩
def Mk(S:PS)(f:Frame):PS:=match S.d with
 |none=>S
 |some b=>if b.g=f.a&& !b.e&&aV b.a f.f.toNat then
  let c:={b with d:=j9 b.d (aO f.f.toNat)}
  {S with d:=some c}.installIf c
   else S
def M3(S:PS)(f:Frame):PS:=(S.Mc f.d).install f.b f.i
def MQ(S:PS)(f:Frame):PS:=
 let T:=(S.My f.f.toNat f.g).MX (f.d.headD ⟨0,0,[],⟨#[]⟩⟩)
 if T.h then T else T.MG
def ML(S:PS)(f:Frame):PS:=
 let T:=S.My f.f.toNat f.g
 if T.g<f.a then T.MH f.a else T
def L9(S:PS)(f:Frame):PS:=
 if f.c=1 then S.MQ f else if f.c=2 then S.ML f else if f.c=3 then S.MR f else if f.c=4 then S.Mv f else if f.c=5 then S.MK f else if f.c=6 then S.Mk f else if f.c=7 then S.M3 f else S
def MM(S:PS)(f:Frame):PS:=if f.c=7 then S else S.ME f.f.toNat f.h (S.i.getD f.h.toNat ⟨0,[],[]⟩)
def MW(S:PS)(f:Frame):PS:=if S.b<f.h then S else if f.h<S.b then S.MM f else if aV S.m f.f.toNat then S.L9 f else S
end PS
def dp(l:Υ)(n:Nat):Bool:=l.length==n||l.length==0
def dr(n:Nat)(m:Msg):Bool:=decide (m.a<n)&&m.c.length==n&&m.c.getD m.a.toNat 0==m.seq
def cH(f:Frame)(n:Nat):Bool:=
 if f.c=1 then f.g.length==n&&f.d.length==1 else if f.c=2 then f.g.length==n else if f.c=3||f.c=6 then f.a !=0
 else if f.c=4 then f.a !=0&&f.g.length==n&&(f.i.length==n||f.e==0) else if f.c=5 then f.a !=0&&f.i.length==n else if f.c=7 then f.i.length==n else false
def na(f:Frame)(p n:Nat):Bool:=
 f.j==p&&f.f !=p&&decide (f.f<n)&&cX f.b (2^n-1)==0&&dp f.g n&&dp f.i n&&f.d.all (dr n)&&cH f n
namespace PS
def Mn(S:PS)(s:Ϭ):PS:=if S.MC=0&&Codec.bM s&&na (Codec.bO s).1 S.c S.n then S.MW (Codec.bO s).1 else S
def tick(S:PS):PS:=if S.MC=0 then S.Me.L8.foldl (λT q=>if T.h then T.gossip q else (T.gossip q).Mz q) S.Me else S
def Nc(S:PS)(l:List (Ϭ)):PS:=(l.foldl Mn S).tick
def Mf(S:PS)(t:ϝ):Int:=
 if S.MC≠0 then S.MC else if 16<t.size then 2 else if S.h then 8 else if 20<=S.Ml.getD S.c 0 then 9 else if S.r<=(S.o.filter λm=>m.a==(S.c:Int)).length then 10 else 0
def Ma(S:PS)(t:ϝ):Msg:=⟨S.c,S.Ml.getD S.c 0+1,S.Ml.set S.c (S.Ml.getD S.c 0+1),t⟩
def put(l:List Msg)(m:Msg):List Msg:=if l.any (eA m.a m.seq) then l.map λx=>if eA m.a m.seq x then m else x else l++[m]
def MV(S:PS)(m:Msg):PS:=let T:=S.Ms m 1;({T with o:=put T.o m}).M1
def cast(S:PS)(t:ϝ):PS:=if S.Mf t=0 then (S.MV (S.Ma t)).L8.foldl (λT q=>T.MN q (S.Ma t)) (S.MV (S.Ma t)) else S
def Mu(S:PS)(q:Nat):PS:=if q≠S.c/\S.MC=0 then S.suspect (aO q) else S
def crash(S:PS):PS:={S with f:=true}
def Ni(num n win:Nat):PS:=⟨num,n,win,false,false,false,0,2^n-1,0,0,⟨0,0,[]⟩,none,List.replicate n (List.replicate n 0),[],[],[],[]⟩
end PS
end Go.Proofs.Y.Md
end
namespace Go.Proofs.Y.Md
section
open Codec (Msg Frame)
variable {S T:PS}{k j:Nat}
structure MsgW(n:Nat)(m:Msg):Prop where
 s:∃s:Nat,s<n/\m.a=s
 t:m.c.length=n
 b:0<=m.seq
 a:m.seq<=20
def th(n:Nat)(r:Υ):Prop:=r.length=n/\∀x∈r,0<=x/\x<=20
def bj(s:Int):Prop:=0<=s/\s<64
def nD(b:Int):Prop:=0<=b/\b<2147483648
def fI(row:Υ):Nat:=(row.map λx=>(20-x).toNat).sum
structure lh(n:Nat)(v:Vote)(B:Bal):Prop where
 f:B.i≠[]
 c:∀a∈B.i,a.1.length=n/\0<=a.2.b/\(a.2.b≠0->a.2.a.length=n)/\bj a.2.m
 cut:B.e=false->v.a.length=n
 num:nD B.g
 out:bj B.out
 asked:bj B.a
 answ:bj B.c
 acc:bj B.d
 e:B.i.length<=ir B.c
def vh:Bool->Nat
 |true=>0
 |false=>1
structure Wf(S:PS):Prop where
 c:S.n<=6
 num:S.c<S.n
 a:S.q.length=S.n
 kn:∀r∈S.q,th S.n r
 ms:∀m∈S.o,MsgW S.n m
 view:0<=S.b/\S.b<=2147483648
 mem:bj S.m
 sus:bj S.k
 h:fK S.k S.m=S.k/\aV S.k S.c=false
 prom:nD S.g
 vote:0<=S.a.b/\(S.a.b≠0->S.a.a.length=S.n)/\bj S.a.m
 lead:∀B,S.d=some B->lh S.n S.a B
 left:S.b.toNat<=S.i.length/\(S.out=false->S.i.length=S.b.toNat)
 t:S.j.length+fI S.Ml+vh S.out<=122*(S.b.toNat+1)
def Wf.n0(h:Wf S):0<S.n:=Nat.lt_of_le_of_lt (Nat.zero_le _) h.num
def Wf.g(h:Wf S):th S.n S.Ml:=by have:S.c<S.q.length:=h.a▸h.num;rw[(by simp[PS.Ml,this]:S.Ml=S.q[S.c])];exact h.kn _ ς
def th.at{n:Nat}{r:Υ}(h:th n r){q:Nat}(a:q<n):0<=r.getD q 0/\r.getD q 0<=20:=by
 have:q<r.length:=by rwa [h.1]
 rw[show r.getD q 0=r[q] by grind];exact h.2 _ ς
def Wf.a7(h:Wf S):S.j.length<=300000000000:=by have b:=h.t;have a:=h.view;lia
structure Lq(S:PS):Prop where
 c:S.n<=6
 b:0<S.n
 a:S.q.length=S.n
 kn:∀r∈S.q,th S.n r
 view:0<=S.b/\S.b<=2147483648
 sus:bj S.k
 evs:S.j.length<=300000000000
def Wf.c0(h:Wf S):Lq S:={h with b:=h.n0,evs:=h.a7}
structure Sends(S T:PS)(k:Nat):Prop where
 e:T={S with e:=T.e}
 b:T.e.length<=S.e.length+k
def Sends.f(S:PS):Sends S S 0:=⟨rfl,Ϫ⟩
def Sends.g{U:PS}(h:Sends S T j)(g:Sends T U k):Sends S U (j+k):=by refine⟨?_,ϵ h.b g.b⟩;have e:=g.e;rwa [h.e]at e
def Sends.c(h:Sends S T j)(a:j<=k):Sends S T k:=⟨h.e,Nat.le_trans h.b ω⟩
def Sends.d(h:Sends S T k)(a:Wf S):Wf T:=h.e▸{a with}
theorem ak(S:PS)(f:Frame):Sends S (S.MZ f) 1:=by unfold PS.MZ;split;exact⟨rfl,ς⟩;exact⟨rfl,ω⟩
def bK{c:Type}(g:PS->c->PS)(k:Nat)(b:∀T a,Sends T (g T a) k):∀(l:List c)(S:PS),Sends S (l.foldl g S) (l.length*k)
 |[],S=>ϰ (Sends.f S)
 |a::l,S=>by have:=(b S a).g (bK g k b l _);rwa [List.length_cons,Nat.add_mul,Nat.one_mul,Nat.add_comm _]
end
section
open Codec (Msg Frame)
variable {S:PS}{r:Υ}{q n:Nat}{m:Msg}
def Wf.j(h:Wf S):Wf S.M1:={h with ms:=λm a=>h.ms m (List.mem_filter.1 a).1}
theorem iW(a r:Υ):(dB a r).length=a.length:=by simp[dB]
def th.a{a:Υ}(h:th n a)(f:∀x∈r,0<=x/\x<=20):th n (dB a r):=by
 refine⟨by rw[iW];exact h.1,λx c=>?_⟩;obtain⟨s,b,rfl⟩:=List.mem_map.1 c;have b:=List.mem_range.1 b;have g:=h.2 a[s] ς;have e:0<=r.getD s 0/\r.getD s 0<=20:=by
  by_cases d:s<r.length
  .simp_all
  grind
 grind
def zX{b:Type}{l:List b}{i:Nat}{a x:b}(h:x∈l.set i a):x=a\/x∈l:=by grind
def Wf.a6(h:Wf S)(b:th S.n r)(c:q=S.c->S.j.length+fI r+vh S.out<=122*(S.b.toNat+1)):Wf {S with q:=S.q.set q r}:=by refine {h with a:=ϰ h.a,kn:=λx a=>(zX a).elim (λe=>e▸b) (h.kn x),t:=?_};show S.j.length+fI ((S.q.set q r).getD _ [])+vh _<=_;by_cases e:q=S.c;rw[show (S.q.set q r).getD _ []=r by simp[e,h.a,h.num]];grind;rw[show (S.q.set q r).getD _ []=S.Ml by simp[PS.Ml,List.getElem?_set_ne e]];exact h.t
def zZ:∀{r r':Υ},r.length=r'.length->(∀(i:Nat),r.getD i 0<=r'.getD i 0)->fI r'<=fI r
 |[],[],_,_=>Ϫ
 |x::r,y::r',c,h=>by have a:=zZ (r:=r) (r':=r') ν λi=>ϰ (h (i+1));have b:x<=y:=ϰ (h 0);simp only[fI,List.map_cons,List.sum_cons]at a|-;lia
def py(h:th n r):fI r<=20*n:=by
 obtain⟨d,a⟩:=h;subst d;induction r with
 |nil=>simp[fI]
 |cons x r c=>
  have e:=a x ς;have:=c λy b=>a y (List.mem_cons_of_mem _ b);simp only[fI,List.map_cons,List.sum_cons,List.length_cons]at this|-;lia
def Wf.i(h:Wf S)(c:q<S.n)(f:∀x∈r,0<=x/\x<=20):Wf (S.My q r):=by
 have g:q<S.q.length:=by rwa [h.a]
 have e:S.q.getD q []=S.q[q]:=by simp[g]
 have a:th S.n (S.q.getD q []):=e▸h.kn _ ς;refine(h.a6 (a.a f) λd=>?_).j;have:fI (dB (S.q.getD q []) r)<=fI S.Ml:=by
  rw[d];refine zZ (iW _ _).symm λi=>?_;show S.Ml.getD i 0<=(dB S.Ml r).getD i 0;by_cases b:i<S.Ml.length
  .simp only[dB,List.getD_eq_getElem?_getD,List.getElem?_map,List.getElem?_range b,Option.map_some,Option.getD_some];lia
  rw[show S.Ml.getD i 0=0 by simp[b],show (dB _ r).getD i 0=0 by simp[dB,b]];lia
 have:=h.t;lia
def Wf.x(h:Wf S)(b:MsgW S.n m):Wf (S.MX m):=by unfold PS.MX;split;exact h;refine {h with ms:=λx a=>?_};rcases List.mem_append.1 a with a|a;exact h.ms x a;rw[List.mem_singleton]at a;subst a;exact b
def DD(m:Msg):(S.MX m).n=S.n:=by unfold PS.MX;grind
def Wf.f(h:Wf S){l:List Msg}(a:∀m∈l,MsgW S.n m):Wf (S.Mc l):=by
 induction l generalizing S with
 |nil=>exact h
 |cons m l b=>exact b (h.x (a m ς)) λx c=>by rw[DD];exact a x ν
def dy{a:Υ}(h:S.Mh a=some m):m∈S.o/\∃q,q<S.n/\m.a=(q:Int)/\m.seq=S.Ml.getD q 0+1/\aR a m=true/\Hk S.Ml m.c q=true:=by obtain⟨q,f,e⟩:=List.exists_of_findSome?_eq_some h;let⟨d,c⟩:=Option.filter_eq_some_iff.1 e;have b:=List.find?_some d;simp only[eA,Bool.and_eq_true,beq_iff_eq]at b c;grind
def ve:∀{r:Υ}{s:Nat}{x:Int},r[s]?=some x->x+1<=20->fI (r.set s (x+1))+1=fI r
 |y::r,0,x,h,a=>by simp only[List.getElem?_cons_zero,Option.some.injEq]at h;simp only[fI,List.set_cons_zero,List.map_cons,List.sum_cons];lia
 |y::r,s+1,x,h,a=>by have:=ve (r:=r) (s:=s) ν a;simp only[fI,List.set_cons_succ,List.map_cons,List.sum_cons]at this|-;lia
def Wf.k(h:Wf S)(f:q<S.n)(j:m.a=(q:Int))(g:m.seq=S.Ml.getD q 0+1)(k:m.seq<=20)(a:Int):Wf (S.Ms m a)/\fI (S.Ms m a).Ml+1=fI S.Ml:=by
 have d:=h.g;have p:q<S.Ml.length:=by rwa [d.1]
 have s:=d.at f;have e:m.a.toNat=q:=by rw[j];rfl
 have l:=ve (r:=S.Ml) (s:=q) (x:=S.Ml.getD q 0) ν ω;have c:(S.Ms m a).Ml=S.Ml.set q (S.Ml.getD q 0+1):=by simp only[PS.Ms,PS.Ng,e,g];show (S.q.set _ _).getD _ []=_;simp[h.a,h.num]
 refine⟨?_,ν⟩;have b:=h.a6 (q:=S.c) (r:=S.Ml.set q (S.Ml.getD q 0+1)) ⟨ϰ d.1,λx i=>(zX i).elim (λe=>by lia) (d.2 x)⟩ λ_=>ϕ h.t;have o:S.Ms m a=PS.Ng {S with q:=S.q.set S.c (S.Ml.set q (S.Ml.getD q 0+1))} ⟨a,S.b,m.a,m.seq,0,m.b⟩:=by simp only[PS.Ms,e,g]
 rw[o]at c|-;refine {b with t:=?_};rw[c];have:=h.t;simp only[PS.Ng,List.length_append,List.length_cons,List.length_nil]at this|-;lia
def kG:∀(k:Nat)(S:PS)(a:Υ),Wf S->Wf (PS.Mt k S a)
 |0,_,_,h=>h
 |k+1,S,a,h=>by
   rw[PS.Mt];split;exact h;rename_i m f
   obtain⟨b,q,c,e,d,-⟩:=dy f;exact kG k _ a (h.k c e d (h.ms m b).a 2).1.j
def Wf.d(h:Wf S)(a:Υ):Wf (S.Mb a):=kG 121 S a h
variable {a b:Msg}
def iC:jl a b=true↔a.a<b.a\/(a.a=b.a/\a.seq<=b.seq):=by simp[jl]
def u9(a b:Msg):jl a b=true\/jl b a=true:=by rw[iC,iC];lia
def va{c:Msg}(h:jl a b=true)(k:jl b c=true):jl a c=true:=by rw[iC]at*;lia
def pq(m:Msg):∀l,(Ke m l).Perm (m::l)
 |[]=>List.Perm.refl _
 |x::l=>by unfold Ke;split;exact List.Perm.refl _;exact((pq m l).cons x).trans (List.Perm.swap m x l)
def gu:∀l,(z7 l).Perm l
 |[]=>List.Perm.refl _
 |m::l=>(pq m _).trans ((gu l).cons m)
def pr:∀{l:List Msg},l.Pairwise (λa b=>jl a b=true)->(Ke m l).Pairwise λa b=>jl a b=true
 |[],_=>List.pairwise_singleton _ _
 |x::l,h=>by
   rw[List.pairwise_cons]at h;unfold Ke;split
   .rename_i d
    refine List.pairwise_cons.2 ⟨λy c=>?_,List.pairwise_cons.2 h⟩;rcases List.mem_cons.1 c with rfl|c;exact d;exact va d (h.1 y c)
   rename_i d
   refine List.pairwise_cons.2 ⟨λy c=>?_,pr h.2⟩;rcases List.mem_cons.1 ((pq m l).mem_iff.1 c)with rfl|c;exact(u9 x y).resolve_right d;grind
def ma:∀l,(z7 l).Pairwise λa b=>jl a b=true
 |[]=>List.Pairwise.nil
 |_::l=>pr (ma l)
def DI{l c:List Msg}(d:c.Perm l)(i:c.Pairwise λa b=>jl a b=true)(h:∀a∈l,∀b∈l,a.a=b.a->a.seq=b.seq->a=b):c=z7 l:=by refine List.Perm.eq_of_pairwise (λa b j g f e=>?_) i (ma l) (d.trans (gu l).symm);rw[iC]at f e;exact h a (d.mem_iff.1 j) b ((gu l).mem_iff.1 g) ω ω
theorem lq:m∈S.Mp↔m∈S.o:=(gu S.o).mem_iff
def ll:S.Mp.length=S.o.length:=(gu S.o).length_eq
def jK{c:Υ}(h:m∈S.Mm c):m∈S.o:=lq.1 (List.mem_filter.1 h).1
end
section
open Codec (Msg Frame)
variable {S T U:PS}{x y m:Int}{q:Nat}
theorem bj.a(h:bj x):∃a:Nat,x=a/\a<2^6:=by obtain⟨a,rfl⟩:=Int.eq_ofNat_of_zero_le h.1;exact⟨a,rfl,ϕ h.2⟩
theorem bT(a q:Nat):aV (a:Int) q=a.testBit q:=by grind[aV]
theorem DF(a c:Nat):fK a c=((a&&&c:Nat):Int):=rfl
theorem z6(a c:Nat):j9 a c=((a|||c:Nat):Int):=rfl
theorem DG(a c:Nat):cX a c=((a^^^(a&&&c):Nat):Int):=rfl
def bj.h{a:Nat}(h:a<2^6):bj (a:Int):=⟨ω,ω⟩
theorem bj.d(h:bj x):bj (fK x y):=by obtain⟨a,rfl,b⟩:=h.a;exact .h (Nat.lt_of_le_of_lt (Nat.and_le_left) b)
def bj.f(h:bj x)(k:bj y):bj (j9 x y):=by obtain⟨a,rfl,d⟩:=h.a;obtain⟨c,rfl,b⟩:=k.a;exact .h (Nat.or_lt_two_pow d b)
def bj.g(h:bj x):bj (cX x y):=by obtain⟨a,rfl,b⟩:=h.a;exact .h (Nat.xor_lt_two_pow b ((by grind[Nat.and_le_left])))
theorem bj.c(h:q<6):bj (aO q):=.h (Nat.pow_lt_pow_right ω h)
theorem gn(h:bj x)(k:bj y)(q:Nat):aV (fK x y) q=(aV x q&&aV y q):=by grind[bj.a,DF,bT]
theorem tj(h:bj x)(k:bj y)(q:Nat):aV (j9 x y) q=(aV x q||aV y q):=by grind[bj.a,z6,bT]
theorem lX(h:bj x)(k:bj y)(q:Nat):aV (cX x y) q=(aV x q&& !aV y q):=by grind[bj.a,DG,bT]
theorem u5(p q:Nat):aV (aO p) q=decide (p=q):=by unfold aO;rw[bT,Nat.testBit_two_pow]
def bj.e(h:bj x)(k:bj y)(e:∀q,aV x q=aV y q):x=y:=by obtain⟨a,rfl,-⟩:=h.a;obtain⟨c,rfl,-⟩:=k.a;congr 1;exact Nat.eq_of_testBit_eq λq=>by simp_all[bT]
theorem zW(h:bj x)(b:aV x q=true):q<6:=by obtain⟨a,rfl,d⟩:=h.a;rw[bT]at b;refine Nat.lt_of_not_le λc=>?_;rw[Nat.testBit_lt_two_pow (Nat.lt_of_lt_of_le d (Nat.pow_le_pow_right ω c))]at b;cases b
theorem eX{n:Nat}:q∈iX x n↔q<n/\aV x q=true:=by simp[iX]
def DH(h:bj x){p:Nat}(b:aV x p=true)(a:aV x q=true)(f:p≠q):2<=ir x:=by
 unfold ir;have d:=eX.2 ⟨zW h b,b⟩;have c:=eX.2 ⟨zW h a,a⟩;match e:iX x 6 with
 |[]=>grind
 |[y]=>grind
 |_::_::_=>simp
def vg(h:q<6):ir (aO q)=1:=by
 match q,h with
 |0,_=>rfl
 |1,_=>rfl
 |2,_=>rfl
 |3,_=>rfl
 |4,_=>rfl
 |5,_=>rfl
def dh(S T:PS):Prop:=T={S with q:=T.q,o:=T.o,j:=T.j,e:=T.e}
def dh.e(S:PS):dh S S:=rfl
def dh.b(h:dh S T)(k:dh T U):dh S U:=by grind[dh]
theorem Sends.a{k:Nat}(h:Sends S T k):dh S T:=by have e:=h.e;grind[dh]
theorem dq(S:PS)(q:Nat)(r:Υ):dh S (S.My q r):=rfl
def nc(S:PS)(m:Msg):dh S (S.MX m):=by unfold PS.MX;split<;>rfl
def bf(S:PS)(l:List Msg):dh S (S.Mc l):=by
 induction l generalizing S with
 |nil=>rfl
 |cons m l a=>exact(nc S m).b (a _)
def kH:∀(k:Nat)(S:PS)(a:Υ),dh S (PS.Mt k S a)
 |0,_,_=>rfl
 |k+1,S,a=>by rw[PS.Mt];split;rfl;exact dh.b (show dh S (S.Ms _ 2).M1 from rfl) (kH k _ a)
def eh(S:PS)(a:Υ):dh S (S.Mb a):=kH 121 S a
theorem dh.i(h:dh S T):T.c=S.c:=by rw[h]
theorem dh.n(h:dh S T):T.n=S.n:=by rw[h]
def dh.out(h:dh S T):T.out=S.out:=by rw[h]
theorem dh.a(h:dh S T):T.b=S.b:=by rw[h]
def dh.c(h:dh S T):T.a=S.a:=by rw[h]
def dh.f(h:dh S T):T.d=S.d:=by rw[h]
def dh.j(h:dh S T):T.m=S.m:=by rw[h]
theorem dh.h(h:dh S T):T.i=S.i:=by rw[h]
theorem dh.o(h:dh S T):T.k=S.k:=by rw[h]
theorem dh.l(h:dh S T):T.g=S.g:=by rw[h]
theorem dh.g(h:dh S T):T.h=S.h:=by rw[h]
def dh.d(h:dh S T):T.f=S.f:=by rw[h]
def Wf.suspect(h:Wf S){a:Int}(g:bj a):Wf (S.suspect a):=by have f:bj _:=.c (Nat.lt_of_lt_of_le h.num h.c);have d:bj (fK a S.m):=g.d;have c:bj (cX (fK a S.m) (aO S.c)):=d.g;have b:=h.sus.f c;refine {h with sus:=b,h:=⟨bj.e b.d b λq=>?_,?_⟩};show aV (fK (j9 _ _) S.m) q=aV (j9 _ _) q;have e:=congrArg (λs=>aV s q) h.h.1;grind[gn,sus,mem,tj,lX];show aV (j9 _ _) S.c=false;rw[tj h.sus c,h.h.2,lX d f,u5];simp
def Wf.a0(h:Wf S){n:Int}(b:nD n):Wf (S.MH n):=by refine {h with prom:=b,lead:=λB a=>h.lead B ?_};have a:(if S.MY n then S.d else none)=some B:=a;grind
def Wf.s(h:Wf S){n:Int}(a:nD n):Wf (S.Mx n):=
 have k:=h.a0 a
 {k with}
theorem rF(n:Nat):fI (List.replicate n 0)=20*n:=by grind[fI,List.map_replicate,List.sum_replicate_nat]
def nD.a:nD 0:=⟨θ,θ⟩
def bj.b:bj 0:=⟨θ,θ⟩
def Wf.enter(h:Wf S)(n:S.out=false)(p:S.b<2147483648)(b:bj m)(a:Υ):Wf ((S.M6 m a).enter m):=by
 have i:=h.view.1;have e:(S.b+1).toNat=S.b.toNat+1:=ω;have k:((S.M6 m a).enter m).Ml=List.replicate S.Ml.length 0:=by show (S.q.map _).getD S.c []=List.replicate (S.q.getD S.c []).length 0;simp[(h.a▸h.num)]
 refine⟨h.c,h.num,by show (S.q.map _).length=_;rw[List.length_map];exact h.a,λr f=>?_,λx d=>(List.not_mem_nil d).elim,⟨by show 0<=S.b+1;lia,by show S.b+1<=_;lia⟩,b,h.sus.d,⟨bj.e h.sus.d.d h.sus.d λq=>?_,?_⟩,nD.a,⟨ϭ,λe=>(e rfl).elim,bj.b⟩,nofun,?_,?_⟩;obtain⟨g,c,rfl⟩:=List.mem_map.1 f;exact⟨List.length_replicate▸(h.kn g c).1,λx d=>ν⟩;show aV (fK (fK S.k m) m) q=aV (fK S.k m) q;grind[gn,bj.d,sus];show aV (fK S.k m) S.c=false;rw[gn h.sus b,h.h.2,Bool.false_and];have:=h.left.2 n;show (S.b+1).toNat<=(S.i++[_]).length/\(_->(S.i++[_]).length=(S.b+1).toNat);grind;rw[k];show (S.j++[_]).length+fI _+vh S.out<=122*((S.b+1).toNat+1);have s:=h.t;have j:=h.g.1;grind[c,rF]
def Wf.b0(h:Wf S)(c:S.out=false)(m:Int)(a:Υ):Wf ((S.M6 m a).Na):=by refine {h with left:=⟨?_,nofun⟩,t:=?_};show S.b.toNat<=(S.i++[_]).length;have:=h.left.1;grind;show (S.j++[_]).length+fI S.Ml+0<=122*(S.b.toNat+1);have b:=h.t;grind[vh]
def Wf.install(h:Wf S)(c:S.out=false)(e:S.b<2147483648)(d:bj m)(a:Υ):Wf (S.install m a):=by have k:=h.d a;have b:=eh S a;unfold PS.install;split;exact k.enter (b.out.trans c) (by rwa [b.a]) d a;exact k.b0 (b.out.trans c) m a
def Wf.v(h:Wf S)(m:Int)(a:Υ):Lq (S.M6 m a):={h with b:=h.n0,evs:=h.a7}
end
section
open Codec (Msg Frame)
variable {S T U:PS}{B:Bal}{n:Nat}{v:Vote}{x:Int}{t:ϝ}
section
def Wf.e(h:Wf S){L:Option Bal}(c:0<=v.b/\(v.b≠0->v.a.length=S.n)/\bj v.m)(a:∀B,L=some B->lh S.n v B):Wf {S with a:=v,d:=L}:=
 {h with vote:=c,lead:=a}
theorem bA(S:PS)(b:Bal):∃k,Sends S (S.Mi b) k:=⟨_,bK _ 1 (λT _=>ak T _) _ S⟩
theorem bo(S:PS)(b:Bal):∃k,Sends S (S.Mj b) k:=⟨_,bK _ 1 (λT _=>ak T _) _ S⟩
def df(S:PS):∃k,Sends S S.MF k:=⟨_,bK _ 1 (λT _=>ak T _) _ S⟩
def Wf.installIf(h:Wf S)(b:S.out=false)(c:S.b<2147483648)(B:Bal):Wf (S.installIf B):=by unfold PS.installIf;split;let⟨k,a⟩:=df S;exact(a.d h).install (a.a.out.trans b) (by rwa [a.a.a]) h.vote.2.2 _;exact h
def xM(P:Vote->Prop)(b:P ⟨0,0,[]⟩)(h:∀a∈B.i,P a.2):P B.h:=by
 unfold Bal.h;generalize (⟨0,0,[]⟩:Vote)=v at b;revert h;induction B.i generalizing v with
 |nil=>intro _;exact b
 |cons a l c=>
  intro h;rw[List.foldl_cons];refine c _ ?_ λx d=>h x ν;split;exact h a ς;exact b
def lW(h:∀a∈B.i,a.1.length=n)(f:B.i≠[]):B.j.length=n:=by
 unfold Bal.j;have b:((B.i.headD ([],⟨0,0,[]⟩)).1).length=n:=by
  match e:B.i with
  |[]=>grind
  |a::l=>grind
 generalize (B.i.headD _).1=c at b;induction B.i generalizing c with
 |nil=>exact b
 |cons a l d=>exact d _ (by rwa [iW])
def lh.d(h:lh n v B):0<=B.b.b/\B.b.a.length=n/\bj B.b.m:=by
 have d:=xM (λv=>0<=v.b/\(v.b≠0->v.a.length=n)/\bj v.m) ⟨ϭ,λe=>(e rfl).elim,bj.b⟩ λa c=>(h.c a c).2;unfold Bal.b;split;exact⟨h.num.1,lW (λa c=>(h.c a c).1) h.f,h.asked⟩;rename_i e
 exact⟨h.num.1,d.2.1 e,d.2.2⟩
def Wf.b5(h:Wf S):bj (aO S.c):=.c (Nat.lt_of_lt_of_le h.num h.c)
def Wf.a5(h:Wf S)(a:lh S.n S.a B):Wf {S with d:=some {B with e:=false,d:=aO S.c},a:=B.b}:=by have b:=a.d;refine h.e ⟨b.1,λ_=>b.2.1,b.2.2⟩ ?_;intro c e;cases e;exact {a with cut:=λ_=>b.2.1,acc:=h.b5}
def Wf.b4(h:Wf S)(c:S.out=false)(d:S.b<2147483648)(b:lh S.n S.a B):Wf (S.MA B):=by unfold PS.MA;split;obtain⟨k,a⟩:=bo _ _;exact(a.d (h.a5 b)).installIf (a.a.out.trans c) (by rwa [a.a.a]) _;exact h
def pB(q:Nat):j9 0 (aO q)=aO q:=by show j9 ((0:Nat)) ((2^q:Nat))=_;rw[z6,Nat.zero_or];rfl
def FO{q:Nat}(h:Ik x=q)(a:q<6):aV x q=true:=by
 unfold Ik at h;match e:iX x 6 with
 |[]=>grind
 |y::l=>
  rw[e]at h;subst h;exact(eX.1 (ν:y∈iX x 6)).2
def Wf.b7(h:Wf S)(b:S.M4=true):(decide (aO S.c=cX S.m S.k)&&S.Nj (aO S.c))=false:=by
 unfold PS.M4 at b;simp at b;let⟨i,j⟩:=b;have c:=Nat.lt_of_lt_of_le h.num h.c;have d:=FO j c;rw[lX h.mem h.sus,Bool.and_eq_true]at d;have:∃q,aV S.k q=true:=by refine Classical.byContradiction λl=>i (bj.e h.sus bj.b λq=>?_);rw[(by rw[show 0=((0:Nat):Int) from rfl,bT,Nat.zero_testBit]:aV 0 q=false)];exact ν
 let⟨q,f⟩:=this;have a:aV S.m q=true:=by have e:=congrArg (λs=>aV s q) h.h.1;simp only[gn h.sus h.mem,f,Bool.true_and]at e;exact e
 have m:=DH h.mem d.1 a λe=>ν;have:S.Nj (aO S.c)=false:=by unfold PS.Nj;rw[vg c];simp;lia
 grind
def PS.p(S:PS):Bal:=Bal.f ⟨(S.g/8+1)*8+S.c,true,S.k,cX S.m S.k,0,0,[]⟩ S.c (S.Ml,S.a)
def PS.l(S:PS):PS:={S.Mx ((S.g/8+1)*8+S.c)with d:=some S.p}
def Wf.p(h:Wf S)(d:S.g<2147483640):nD ((S.g/8+1)*8+S.c):=by have c:=h.prom;have b:=h.num;have a:=h.c;unfold nD at*;lia
def Wf.b1(h:Wf S)(c:S.g<2147483640):lh S.n S.a S.p:=by refine⟨by simp[PS.p,Bal.f],λa b=>?_,nofun,h.p c,h.sus,h.mem.g,bj.b.f h.b5,bj.b,?_⟩;simp only[PS.p,Bal.f,List.nil_append,List.mem_singleton]at b;subst b;exact⟨h.g.1,h.vote⟩;show 1<=ir (j9 0 _);rw[pB,vg (Nat.lt_of_lt_of_le h.num h.c)];lia
def Wf.y(h:Wf S)(a:S.g<2147483640):Wf S.l:=(h.s (h.p a)).e h.vote λB e=>by cases e;exact h.b1 a
def u2(h:Wf S)(c:S.M4=true):S.M5=S.l.Mi S.p:=by
 obtain⟨k,b⟩:=bA _ _;have e:S.M5=(S.l.Mi S.p).MA S.p:=rfl;rw[e];unfold PS.MA;rw[if_neg];have d:(S.l.Mi S.p).Nj S.p.c=S.Nj (aO S.c):=by unfold PS.Nj;rw[b.a.j];have:S.p.c=aO _:=pB _;rw[this];rfl
 have a:S.p.c=aO _:=pB _;rw[d,show S.p.a=cX _ _ from rfl,a,(h.b7 c)];nofun
def Wf.b8(h:Wf S)(b:S.M4=true)(c:S.g<2147483640):Wf S.M5:=by rw[u2 h b];obtain⟨k,a⟩:=bA _ _;exact a.d (h.y c)
def Wf.l(h:Wf S):Wf S.Me:=by
 unfold PS.Me;split
 .rename_i e
  simp at e;exact h.b8 e.1.1 e.2
 split;unfold PS.Mr;split;obtain⟨k,a⟩:=bA S _;exact a.d h;obtain⟨k,a⟩:=bo S _;exact a.d h;exact h
structure FrW(n:Nat)(f:Frame):Prop where
 src:∃q:Nat,q<n/\f.f=q
 members:bj f.b
 view:0<=f.h/\f.h<2147483648
 ballot:nD f.a
 voted:0<=f.e
 row:∀x∈f.g,0<=x/\x<=20
 cut:∀x∈f.i,0<=x/\x<=20
 msgs:∀m∈f.d,MsgW n m
 d:f.d.length<=200
 c:cH f n=true
theorem LB{f:Frame}{p:Nat}(a:Codec.dg f=true)(c:na f p n=true):FrW n f:=by simp only[Codec.dg,Codec.dk,Codec.bS,Codec.aA,Codec.cd,Codec.aK,Bool.and_eq_true,Codec.de,List.all_eq_true,decide_eq_true_eq]at a;simp only[na,dr,Bool.and_eq_true,List.all_eq_true,decide_eq_true_eq,beq_iff_eq]at c;obtain⟨⟨⟨⟨⟨⟨⟨-,z⟩,-⟩,u⟩,⟨⟨w,y⟩,q⟩⟩,-,k⟩,-,j⟩,e,d⟩:=a;obtain⟨⟨⟨⟨⟨⟨-,o⟩,-⟩,-⟩,-⟩,i⟩,h⟩:=c;refine⟨⟨f.f.toNat,ω,ω⟩,⟨ω,ω⟩,⟨ω,ω⟩,⟨ω,ω⟩,ω,k,j,λm b=>?_,e,h⟩;obtain⟨⟨⟨s,r⟩,-⟩,-⟩:=d m b;obtain⟨⟨l,g⟩,-⟩:=i m b;exact⟨⟨m.a.toNat,ω,ω⟩,g,ω,ω⟩
variable {f:Frame}
def FrW.q(h:FrW S.n f):f.f.toNat<S.n:=by let⟨q,a,e⟩:=h.src;lia
def Wf.a3(h:Wf S)(a:FrW S.n f):Wf (S.MR f):=by unfold PS.MR;split;exact h;exact(ak _ _).d ((h.s a.ballot).suspect a.members)
def FrW.b(h:FrW S.n f)(a:f.c=4):f.a≠0/\f.g.length=S.n/\(f.e≠0->f.i.length=S.n):=by have:=h.c;unfold cH at this;grind
def FrW.a(h:FrW S.n f)(a:f.c=5):f.a≠0/\f.i.length=S.n:=by have:=h.c;unfold cH at this;grind
def FrW.install(h:FrW S.n f)(a:f.c=7):f.i.length=S.n:=by have:=h.c;unfold cH at this;grind
def FrW.data(h:FrW S.n f)(c:f.c=1):f.g.length=S.n/\∃m,f.d=[m]/\MsgW S.n m:=by
 have:=h.c;unfold cH at this;simp[c]at this;let⟨b,a⟩:=this;match e:f.d,a with
 |[m],_=>exact⟨b,m,rfl,h.msgs m ν⟩
def FrW.gossip(h:FrW S.n f)(a:f.c=2):f.g.length=S.n:=by have:=h.c;unfold cH at this;grind
def pz(x:Int):ir x=(if aV x 0 then 1 else 0)+(if aV x 1 then 1 else 0)+(if aV x 2 then 1 else 0)+(if aV x 3 then 1 else 0)+(if aV x 4 then 1 else 0)+(if aV x 5 then 1 else 0):=by unfold ir iX;rw[<-List.countP_eq_length_filter,show List.range 6=[0,1,2,3,4,5] from rfl];grind
def Bz(h:bj x){q:Nat}(a:q<6)(b:aV x q=false):ir (j9 x (aO q))=ir x+1:=by
 have e:∀i,aV _ i=(aV x i||decide _):=λi=>by rw[tj h (.c a),u5]
 rw[pz,pz];simp only[e];match q,a with
 |0,_|1,_|2,_|3,_|4,_|5,_=>grind
def lh.g(h:lh n v B){q:Nat}(d:q<6)(c:aV B.c q=false){a:Υ×Vote}(e:a.1.length=n/\0<=a.2.b/\(a.2.b≠0->a.2.a.length=n)/\bj a.2.m):lh n v (B.f q a):=by refine {h with f:=by simp[Bal.f],c:=λx b=>?_,answ:=h.answ.f (.c d),e:=?_};rcases List.mem_append.1 b with b|b;exact h.c x b;grind;show (B.i++[a]).length<=ir (j9 _ _);rw[Bz h.answ d c,List.length_append];have:=h.e;grind
def mY(b:bj B.a)(a:bj B.c){q:Nat}(c:aV (cX B.a B.c) q=true):aV B.c q=false:=by rw[lX b a]at c;grind
def Wf.a4(h:Wf S)(p:S.out=false)(m:S.b<2147483648)(a:FrW S.n f)(k:f.c=4):Wf (S.Mv f):=by
 unfold PS.Mv;split;exact h;rename_i B c
 split
 .rename_i d
  have g:=a.q;have j:=(h.i g a.row).f a.msgs;have b:=(dq S f.f.toNat f.g).b (bf _ f.d);have i:lh S.n _ (B.f f.f.toNat (f.g,⟨f.e,f.b,f.i⟩)):=(h.lead B c).g (Nat.lt_of_lt_of_le g h.c) (mY (h.lead B c).asked (h.lead B c).answ ((Bool.and_eq_true_iff.1 d).2)) ⟨(a.b k).2.1,a.voted,(a.b k).2.2,a.members⟩;have o:Wf {(S.My f.f.toNat f.g).Mc f.d with d:=some (B.f f.f.toNat _)}:=j.e j.vote λr e=>by cases e;rwa [b.n,b.c]
  apply o.b4 (b.out.trans p) (Int.lt_of_le_of_lt (Int.le_of_eq b.a) m);rwa [b.n,b.c]
 exact h
def Wf.a1(h:Wf S)(a:FrW S.n f)(c:f.c=5):Wf (S.MK f):=by
 unfold PS.MK;split;exact h;have b:=h.s a.ballot;have d:=b.e (v:=⟨_,_,_⟩) ⟨a.ballot.1,λ_=>(a.a c).2,a.members⟩ λB e=>
  have k:=b.lead B e
  {k with cut:=λ_=>(a.a c).2}
 exact(ak _ _).d (d.f a.msgs)
def Wf.w(h:Wf S)(d:S.out=false)(g:S.b<2147483648)(c:FrW S.n f):Wf (S.Mk f):=by
 unfold PS.Mk;split;exact h;rename_i B b
 split
 .have k:=h.lead B b;have a:Wf {S with d:=some {B with d:=j9 B.d (aO f.f.toNat)}}:=h.e h.vote λi e=>by cases e;exact {k with acc:=k.acc.f (.c (Nat.lt_of_lt_of_le c.q h.c))}
  exact a.installIf d g _
 exact h
def Wf.z(h:Wf S)(c:S.out=false)(d:S.b<2147483648)(b:FrW S.n f):Wf (S.M3 f):=
 have a:=bf S f.d
 (h.f b.msgs).install (a.out.trans c) (Int.lt_of_le_of_lt (Int.le_of_eq a.a) d) b.members _
def Wf.a9(h:Wf S)(a:FrW S.n f)(e:f.c=1):Wf (S.MQ f):=by
 obtain⟨-,m,g,c⟩:=a.data e;unfold PS.MQ;rw[g];have b:∀T:PS,Wf T->Wf (if T.h then T else T.MG):=λT h=>by split;exact h;exact h.d _
 exact b _ ((h.i a.q a.row).x c)
def Wf.a2(h:Wf S)(a:FrW S.n f):Wf (S.ML f):=by have b:=h.i a.q a.row;unfold PS.ML;simp only;split;exact b.a0 a.ballot;exact b
def Wf.b3(h:Wf S)(b:S.out=false)(a:FrW S.n f):Wf (S.MW f):=by unfold PS.MW;split;exact h;split;unfold PS.MM;split;exact h;exact(ak _ _).d h;split;have c:S.b<2147483648:=ϕ a.view.2;unfold PS.L9;split;exact h.a9 a ‹_›;split;exact h.a2 a;split;exact h.a3 a;split;exact h.a4 b c a ‹_›;split;exact h.a1 a ‹_›;split;exact h.w b c a;split;exact h.z b c a;exact h;exact h
def Wf.o(h:Wf S)(s:Ϭ):Wf (S.Mn s):=by
 unfold PS.Mn;split
 .rename_i e
  simp only[Bool.and_eq_true,decide_eq_true_eq,Codec.bM]at e;refine h.b3 ?_ (LB e.1.2.1 e.2);have:=e.1.1;unfold PS.MC at this;grind
 exact h
def ei(S:PS)(q:Nat):∃k,Sends S (S.Mz q) k:=⟨_,bK _ 1 (λT m=>by split;exact ak T _;exact(Sends.f T).c ω) _ S⟩
def Wf.q{c:Type}{g:PS->c->PS}(b:∀T a,Wf T->Wf (g T a)):∀(l:List c)(S:PS),Wf S->Wf (l.foldl g S)
 |[],_,h=>h
 |a::l,S,h=>Wf.q b l _ (b S a h)
def Wf.tick(h:Wf S):Wf S.tick:=by unfold PS.tick;split;refine Wf.q (λT q a=>?_) _ _ h.l;split;exact(ak _ _).d a;obtain⟨k,b⟩:=ei _ q;exact b.d ((ak _ _).d a);exact h
def Wf.b6(h:Wf S)(l:List (Ϭ)):Wf (S.Nc l):=(Wf.q (λ_ s a=>Wf.o a s) l S h).tick
def Wf.crash(h:Wf S):Wf S.crash:={h with}
def tq(a:S.Mf t=0):S.MC=0/\S.h=false/\S.Ml.getD S.c 0<20/\t.size<=16/\(S.o.filter λm=>m.a==(S.c:Int)).length<S.r:=by unfold PS.Mf at a;grind
def Wf.u(h:Wf S)(t:ϝ)(a:S.Ml.getD S.c 0<20):MsgW S.n (S.Ma t):=
 ⟨⟨_,h.num,rfl⟩,by simp[PS.Ma,h.g.1],by have:=(h.g.at h.num).1;show 0<=S.Ml.getD _ 0+1;lia,by show S.Ml.getD _ 0+1<=20;lia⟩
def DK{a b:Nat}(g:n<=6)(d:a<n):Wf (PS.Ni a n b):=by
 have c:(PS.Ni a n b).Ml=List.replicate n 0:=by show (List.replicate n _).getD a []=_;simp[d]
 refine⟨g,d,List.length_replicate,λr c=>?_,nofun,⟨ϭ,by show 0<=2147483648;decide⟩,?_,bj.b,⟨?_,?_⟩,nD.a,⟨ϭ,λe=>(e rfl).elim,bj.b⟩,nofun,⟨Ϫ,λ_=>rfl⟩,?_⟩;rw[(List.mem_replicate.1 c).2];exact⟨List.length_replicate,λx h=>ν⟩
 .show bj (2^n-1);match n,g with
  |0,_|1,_|2,_|3,_|4,_|5,_|6,_=>exact⟨θ,θ⟩
 show fK 0 _=0;unfold fK;simp;show aV 0 a=false;rw[show 0=((0:Nat):Int) from rfl,bT,Nat.zero_testBit];rw[c,rF];show 0+20*n+1<=122*1;lia
end
end
section
open Codec (Msg Frame)
variable {C C':List (Int×Msg)}{p n:Nat}{v:Int}{row:Υ}{evs:List Ev}{S T:PS}{q i:Nat}{y e:Ev}{m:Msg}{l:List Ev}
def u4{r:Υ}{s:Nat}{x:Int}(a:q<r.length):(r.set q x).getD s 0=if q=s then x else r.getD s 0:=by grind
def fT{c:Type}{g:PS->c->PS}{P:PS->Prop}:∀(l:List c)(S:PS),(∀T,∀a∈l,P T->P (g T a))->P S->P (l.foldl g S)
 |[],_,_,h=>h
 |a::l,S,b,h=>fT l _ (λT x f d=>b T x ν d) (b S a ς h)
def j8(S:PS)(f:Frame):dh S (S.MZ f):=(ak S f).a
def rE(b:Wf S)(c:m.a=q)(a:Int):(S.Ms m a).Ml=S.Ml.set q m.seq:=by show (S.q.set _ _).getD S.c []=_;simp[b.a,b.num,c]
variable {f:Frame}{t:ϝ}
theorem Bo(h:S.MC=0):S.f=false/\S.out=false:=by grind[PS.MC]
def u7(S:PS)(q:Nat):dh S (S.gossip q):=j8 S _
variable {U:PS}
structure mI(S T:PS):Prop where
 num:T.c=S.c
 n:T.n=S.n
 win:T.r=S.r
 crashed:T.f=S.f
def mI.b(S:PS):mI S S:=⟨rfl,rfl,rfl,rfl⟩
def mI.a(h:mI S T)(k:mI T U):mI S U:=⟨k.num.trans h.num,k.n.trans h.n,k.win.trans h.win,k.crashed.trans h.crashed⟩
def dh.k(h:dh S T):T.r=S.r:=by rw[h]
def dh.one(h:dh S T):mI S T:=⟨h.i,h.n,h.k,h.d⟩
def Sends.one{k:Nat}(h:Sends S T k):mI S T:=h.a.one
def nH(S:PS)(m:Int)(a:Υ):mI S (S.install m a):=by have k:=(eh S a).one;unfold PS.install;split;exact k.a ⟨rfl,rfl,rfl,rfl⟩;exact k.a ⟨rfl,rfl,rfl,rfl⟩
def kI(S:PS)(B:Bal):mI S (S.installIf B):=by unfold PS.installIf;split;let⟨k,a⟩:=df S;exact a.one.a (nH _ _ _);exact mI.b S
def pw(S:PS)(B:Bal):mI S (S.MA B):=by unfold PS.MA;split;obtain⟨k,a⟩:=bo _ _;exact mI.a (T:={S with d:=some _,a:=B.b}) ⟨rfl,rfl,rfl,rfl⟩ (a.one.a (kI _ _));exact mI.b S
def By(S:PS):mI S S.M5:=by obtain⟨k,a⟩:=bA _ _;have e:S.M5=(S.l.Mi _).MA _:=rfl;rw[e];exact mI.a (T:=S.l) ⟨rfl,rfl,rfl,rfl⟩ (a.one.a (pw _ _))
def gr(S:PS):mI S S.Me:=by unfold PS.Me;split;exact By S;split;unfold PS.Mr;split;exact(bA S _).elim λ_ h=>h.one;exact(bo S _).elim λ_ h=>h.one;exact mI.b S
def bX{P:Prop}[Decidable P](h:mI S T)(k:mI S U):mI S (if P then T else U):=by split;exact h;exact k
def xN(S:PS)(f:Frame):mI S (S.MW f):=by refine bX (mI.b S) (bX ?_ (bX ?_ (mI.b S)));exact bX (mI.b S) (ak _ _).one;refine bX ?_ (bX ?_ (bX ?_ (bX ?_ (bX ?_ (bX ?_ (bX ?_ (mI.b S)))))));exact(λT h=>bX h (h.a (eh T _).one)) _ ((dq S _ _).one.a (nc _ _).one);exact(λT h=>bX (h.a ⟨rfl,rfl,rfl,rfl⟩) h) _ (dq S _ _).one;exact bX (mI.b S) (mI.a (T:=(S.Mx f.a).suspect f.b) ⟨rfl,rfl,rfl,rfl⟩ (ak _ _).one);unfold PS.Mv;split;exact mI.b S;refine bX ?_ (mI.b S);have a:=(dq S f.f.toNat f.g).one.a (bf _ f.d).one;refine mI.a ?_ (pw _ _);exact {a with};refine bX (mI.b S) (mI.a (T:={S.Mx f.a with a:=⟨f.a,f.b,f.i⟩}) ⟨rfl,rfl,rfl,rfl⟩ ((bf _ f.d).one.a (ak _ _).one));unfold PS.Mk;split;exact mI.b S;refine bX ?_ (mI.b S);refine mI.a ?_ (kI _ _);exact⟨rfl,rfl,rfl,rfl⟩;exact(bf S _).one.a (nH _ _ _)
def gq(S:PS)(s:Ϭ):mI S (S.Mn s):=by unfold PS.Mn;exact bX (xN S _) (mI.b S)
def iD{c:Type}{g:PS->c->PS}(b:∀T a,mI T (g T a)):∀(l:List c)(S:PS),mI S (l.foldl g S)
 |[],S=>mI.b S
 |a::l,S=>(b S a).a (iD b l _)
end
end Go.Proofs.Y.Md
section
namespace Go.Proofs.Y.Md
open Codec (Msg Frame)
def zY(f:Frame):Int×ϝ:=(f.j,⟨(Codec.im f).toArray⟩)
def tt(lim:Nat)(pl:List (Int×ϝ))(c:Int×ϝ):List (Int×ϝ):=if pl.length<lim then pl++[c] else pl
def tr(lim:Nat)(pl cs:List (Int×ϝ)):List (Int×ϝ):=cs.foldl (tt lim) pl
structure Grp where
 n:Nat
 d:Nat
 c:Nat
 b:Nat->PS
 a:List (Int×ϝ)
namespace Grp
def Nk(G:Grp)(i:Nat)(S:PS):Grp:={G with b:=λj=>if j=i then S else G.b j}
def MB(G:Grp)(i:Nat):Grp:={G.Nk i {G.b i with e:=[]} with a:=tr G.c G.a ((G.b i).e.map zY)}
def drop(G:Grp)(k:Nat):Grp:={G with a:=G.a.eraseIdx k}
def Np(G:Grp)(q:Nat)(s:ϝ):Grp:=(G.Nk q ((G.b q).Mn s.data.toList)).MB q
def deliver(G:Grp)(k:Nat):Grp:=match G.a[k]? with
 |none=>G
 |some c=>(G.drop k).Np c.1.toNat c.2
def copy(G:Grp)(k:Nat):Grp:=match G.a[k]? with
 |none=>G
 |some c=>{G with a:=tt G.c G.a c}
def cast(G:Grp)(q:Nat)(t:ϝ):Grp:=(G.Nk q ((G.b q).cast t)).MB q
def tick(G:Grp)(q:Nat):Grp:=(G.Nk q (G.b q).tick).MB q
def suspect(G:Grp)(q r:Nat):Grp:=G.Nk q ((G.b q).Mu r)
def crash(G:Grp)(q:Nat):Grp:=G.Nk q (G.b q).crash
def MT(net:List (Int×ϝ))(q:Nat):List (Ϭ):=(net.filter λc=>c.1==(q:Int)).map λc=>c.2.data.toList
def MU(G:Grp):Grp:={G with a:=[],b:=λq=>(G.b q).Nc (MT G.a q)}
def round(G:Grp):Grp:=(List.range G.n).foldl MB G.MU
def Nm(n win lim:Nat):Grp:=⟨n,win,lim,λi=>PS.Ni i n win,[]⟩
end Grp
variable {C C':List (Int×Msg)}{G:Grp}
def gX{lim:Nat}{P:Int×ϝ->Prop}:∀(b d:List (Int×ϝ)),(∀c∈d,P c)->(∀c∈b,P c)->∀c∈tr lim d b,P c
 |[],_,h,_=>h
 |x::b,d,h,k=>by refine gX b _ (λc a=>?_) λc a=>k c ν;unfold tt at a;split at a;rcases List.mem_append.1 a with a|a;exact h c a;rw[List.mem_singleton]at a;subst a;exact k c ς;exact h c a
def Bt{S:PS}{s:Ϭ}(h:Codec.bM s=false):S.Mn s=S:=by unfold PS.Mn;grind
end Go.Proofs.Y.Md
end
namespace Go.Proofs.Y.Md
section
open Codec (Msg Frame)
variable {S T U:PS}{f:Frame}{k j:Nat}
def cS(S T:PS)(k:Nat):Prop:=T.e.length<=S.e.length+k
def cS.a(S:PS)(k:Nat):cS S S k:=Nat.le_add_right _ _
def cS.c(h:cS S T j)(g:cS T U k):cS S U (j+k):=by unfold cS at*;lia
def cS.b(h:cS S T j)(a:j<=k):cS S T k:=by unfold cS at*;lia
def cS.d(h:T.e=S.e):cS S T k:=by unfold cS;grind
def Sends.h(h:Sends S T k):cS S T k:=h.b
def bt{P:Prop}[Decidable P](h:cS S T k)(g:cS S U k):cS S (if P then T else U) k:=by split;exact h;exact g
theorem tz(a:Int)(n:Nat):(iX a n).length<=n:=Nat.le_trans (List.length_filter_le _ _) ς
def fS{g:PS->Nat->PS}(a:∀T q,Sends T (g T q) 1){set:Int}{n:Nat}(b:n<=6)(S:PS):cS S ((iX set n).foldl g S) 6:=
 (bK g 1 a _ S).h.b (ϕ (tz set n))
theorem u6(S:PS)(m:Msg):(S.MX m).e=S.e:=by unfold PS.MX;grind
theorem jL(S:PS)(l:List Msg):(S.Mc l).e=S.e:=by
 induction l generalizing S with
 |nil=>rfl
 |cons m l a=>exact(a _).trans (u6 S m)
def lV:∀(k:Nat)(S:PS)(a:Υ),(PS.Mt k S a).e=S.e
 |0,_,_=>rfl
 |k+1,S,a=>by unfold PS.Mt;split;rfl;exact(lV k _ a).trans rfl
def jH(S:PS)(a:Υ):(S.Mb a).e=S.e:=lV _ S a
def qt6(S:PS)(m:Int)(a:Υ):(S.install m a).e=S.e:=by unfold PS.install;split;exact jH S a;exact jH S a
def jF(a:S.n<=6)(B:Bal):cS S (S.installIf B) 6:=by refine bt ?_ (cS.a S _);exact(fS (λT q=>ak T _) a S).c (k:=0) (cS.d (qt6 _ _ _))
def nF(a:S.n<=6)(B:Bal):cS S (S.MA B) 12:=by refine bt ?_ (cS.a S _);have b:cS _ ({S with d:=some {B with e:=false,d:=aO S.c},a:=B.b}.Mj {B with e:=false,d:=aO S.c}) 6:=fS (λT q=>ak T _) a _;obtain⟨k,c⟩:=bo _ _;exact b.c (jF (by rwa [c.a.n]) _)
def xK(a:S.n<=6):cS S S.M5 18:=by have b:cS _ (S.l.Mi S.p) 6:=fS (λT q=>ak T _) a _;obtain⟨k,c⟩:=bA _ _;exact b.c (nF (by rwa [c.a.n]) _)
def ft(a:S.n<=6):cS S S.Me 18:=by apply bt (xK a);split;exact bt ((fS (λT q=>ak T _) a S).b ω) ((fS (λT q=>ak T _) a S).b ω);exact cS.a S _
def uZ(d:S.n<=6):cS S (S.MW f) 12:=by
 refine bt (cS.a S _) (bt ?_ (bt ?_ (cS.a S _)));exact bt (cS.a S _) ((ak S _).h.b ω);refine bt ?_ (bt ?_ (bt ?_ (bt ?_ (bt ?_ (bt ?_ (bt ?_ (cS.a S _)))))));have b:∀T:PS,T.e=S.e->cS S (if T.h then T else T.MG) 12:=λT h=>bt (.d h) (.d ((jH T _).trans h));exact b _ (u6 _ _);have b:∀T:PS,T.e=S.e->cS S (if T.g<f.a then T.MH f.a else T) 12:=λT h=>bt (.d h) (.d h);exact b _ rfl;exact bt (cS.a S _) (cS.b (ak _ _).b ω)
 .unfold PS.Mv;split;exact cS.a S _;refine bt ?_ (cS.a S _);rename_i B _
  have e:=(dq S f.f.toNat f.g).b (bf _ f.d);have c:((S.My f.f.toNat f.g).Mc f.d).e=S.e:=jL _ _;have a:=nF (S:={(S.My f.f.toNat f.g).Mc _ with d:=some (B.f f.f.toNat (f.g,⟨f.e,f.b,f.i⟩))}) (by rwa [e.n]) (B.f f.f.toNat (f.g,⟨f.e,f.b,f.i⟩));unfold cS at a|-;grind
 apply bt (cS.a S _);have c:({S.Mx f.a with a:=⟨f.a,f.b,f.i⟩}.Mc f.d).e=S.e:=jL _ _;have a:=(ak ({S.Mx f.a with a:=⟨f.a,f.b,f.i⟩}.Mc f.d) ⟨6,0,f.f,0,S.b,f.a,0,[],[],[]⟩).b;rw[c]at a;exact cS.b a ω
 .unfold PS.Mk;split;exact cS.a S _;refine bt ?_ (cS.a S _);rename_i B _
  have a:=jF (S:={S with d:=some {B with d:=j9 B.d (aO f.f.toNat)}}) d {B with d:=j9 B.d (aO f.f.toNat)};exact cS.b a ω
 exact .d ((qt6 _ _ _).trans (jL S f.d))
def nE(a:S.n<=6)(s:Ϭ):cS S (S.Mn s) 12:=by unfold PS.Mn;exact bt (uZ a) (cS.a S _)
def fH:∀(l:List (Ϭ))(S:PS),S.n<=6->cS S (l.foldl PS.Mn S) (12*l.length)
 |[],S,_=>cS.a S _
 |s::l,S,a=>
  have c:=nE a s;have b:=fH l _ (by rwa [(gq S s).n])
  (c.c b).b ν
def tickF(T:PS)(q:Nat):PS:=if T.h then T.gossip q else (T.gossip q).Mz q
def oB(S:PS):S.tick=if S.MC=0 then S.Me.L8.foldl tickF S.Me else S:=rfl
def vf(T:PS)(q:Nat):Sends T (tickF T q) (1+T.o.length):=by
 have a:Sends T (T.gossip q) 1:=ak T _;have b:Sends _ ((T.gossip q).Mz q) _:=bK _ 1 (λU m=>by split;exact ak U _;exact(Sends.f U).c ω) _ _
 rw[(by rw[ll,a.e]:(T.gossip q).Mp.length=T.o.length),Nat.mul_one]at b;unfold tickF;split;exact a.c ω;exact a.g b
def gW(U:PS):∀(l:Ϙ),Sends U (l.foldl tickF U) (l.length*(1+U.o.length))
 |[]=>(Sends.f U).c ω
 |q::l=>by have b:=vf U q;have a:=gW (tickF U q) l;rw[(by rw[b.e]:(tickF U q).o=U.o)]at a;apply (b.g a).c;rw[List.length_cons,Nat.add_mul];lia
def Bp(a:S.n<=6)(t:ϝ):cS S (S.cast t) 6:=by refine bt ?_ (cS.a S _);have h:=fS (set:=cX (S.MV (S.Ma t)).m (aO (S.MV (S.Ma t)).c)) (g:=λT q=>T.MN q (S.Ma t)) (λT q=>ak T _) a (S.MV (S.Ma t));exact h
def Bv(S:PS):S.M1.o.length<=S.o.length:=List.length_filter_le _ _
def nG:∀(k:Nat)(S:PS)(a:Υ),(PS.Mt k S a).o.length<=S.o.length
 |0,_,_=>Ϫ
 |k+1,S,a=>by
   unfold PS.Mt;split
   .lia
   exact Nat.le_trans (nG k _ a) (Bv _)
def qw9(S:PS)(m:Int)(a:Υ):(S.install m a).o.length<=S.o.length:=by unfold PS.install;split;exact Nat.zero_le _;exact nG _ S a
theorem Sends.i{k:Nat}(h:Sends S T k):T.o=S.o:=by rw[h.e]
def qvr(S:PS)(B:Bal):(S.installIf B).o.length<=S.o.length:=by unfold PS.installIf;split;let⟨k,a⟩:=df S;exact Nat.le_trans (qw9 _ _ _) (Nat.le_of_eq (congrArg _ a.i));lia
def BB(S:PS)(B:Bal):(S.MA B).o.length<=S.o.length:=by unfold PS.MA;split;obtain⟨k,a⟩:=bo _ _;exact Nat.le_trans (qvr _ _) (Nat.le_of_eq (congrArg _ a.i));lia
def qD(S:PS):S.Me.o.length<=S.o.length:=by unfold PS.Me;split;have e:S.M5=(S.l.Mi _).MA _:=rfl;obtain⟨k,a⟩:=bA _ _;exact Nat.le_trans (BB _ _) (Nat.le_of_eq (congrArg _ a.i));split;unfold PS.Mr;split;exact(bA S _).elim λ_ h=>Nat.le_of_eq (congrArg _ h.i);exact(bo S _).elim λ_ h=>Nat.le_of_eq (congrArg _ h.i);lia
def Bq(a:S.n<=6):cS S S.tick (18+6*(1+S.o.length)):=by rw[oB];split;have d:=ft a;have c:=(gW S.Me S.Me.L8).h;have e:=qD S;refine d.c (c.b ?_);exact Nat.mul_le_mul (Nat.le_trans (tz _ _) (by rwa [(gr S).n])) ω;exact cS.a S _
structure GW(G:Grp):Prop where
 b:G.n<=6
 a:∀i,i<G.n->Wf (G.b i)
 num:∀i,i<G.n->(G.b i).c=i
 n:∀i,i<G.n->(G.b i).n=G.n
 snt:∀i,i<G.n->(G.b i).e=[]
 lim:G.c<=4000
 net:G.a.length<=G.c
variable {i:Nat}
section
def mZ:ϝ:=⟨#[102,105,114,115,116]⟩
abbrev Book:=Nat->Bool
def Book.put(cr:Book)(q:Nat):Book:=λj=>if j=q then true else cr j
inductive dY(n win lim:Nat):Grp->Book->Prop
 |start:1<=n/\n<=6->lim<=4000->dY n win lim ((Grp.Nm n win lim).cast 0 mZ) λ_=>false
 |deliver {G:Grp}{cr:Book} (k:Nat):dY n win lim G cr->dY n win lim (G.deliver k) cr
 |drop {G:Grp}{cr:Book} (k:Nat):dY n win lim G cr->dY n win lim (G.drop k) cr
 |copy {G:Grp}{cr:Book} (k:Nat):dY n win lim G cr->dY n win lim (G.copy k) cr
 |cast {G:Grp}{cr:Book} (q:Nat) (t:ϝ):q<n->t.size<=16->dY n win lim G cr->dY n win lim (G.cast q t) cr
 |tick {G:Grp}{cr:Book} (q:Nat):q<n->dY n win lim G cr->dY n win lim (G.tick q) cr
 |crash {G:Grp}{cr:Book} (q:Nat):q<n->dY n win lim G cr->dY n win lim (G.crash q) (cr.put q)
 |suspect {G:Grp}{cr:Book} (q r:Nat):q<n->r<n->cr r=true->dY n win lim G cr->dY n win lim (G.suspect q r) cr
 |round {G:Grp}{cr:Book}:dY n win lim G cr->dY n win lim G.round cr
variable {n win lim:Nat}{G:Grp}{cr:Book}
def dQ{a:Nat}:∀(d b:List (Int×ϝ)),b.length<=a->(tr a b d).length<=a
 |[],_,h=>h
 |c::d,b,h=>by refine dQ d _ ?_;unfold tt;grind
def Bu(h:G.a.length<=G.c):(G.MB i).a.length<=(G.MB i).c:=dQ _ _ h
def jG:∀(l:Ϙ)(G:Grp),G.a.length<=G.c->(l.foldl Grp.MB G).a.length<=(l.foldl Grp.MB G).c/\(l.foldl Grp.MB G).n=G.n/\(l.foldl Grp.MB G).d=G.d/\(l.foldl Grp.MB G).c=G.c
 |[],_,h=>⟨h,rfl,rfl,rfl⟩
 |i::l,G,h=>jG l (G.MB i) (Bu h)
end
variable {G:Grp}
def xL(b:S.n<=6):cS S S.tick (18+6*(1+S.tick.o.length)):=by rw[oB];split;have d:=ft b;have a:=gW S.Me S.Me.L8;rw[a.i];exact d.c (a.h.b (Nat.mul_le_mul (Nat.le_trans (tz _ _) (by rwa [(gr S).n])) Ϫ));exact cS.a S _
def Br(a:S.n<=6)(l:List (Ϭ)):cS S (S.Nc l) (12*l.length+(18+6*(1+(S.Nc l).o.length))):=
 have c:=fH l S a;have b:=xL (by rwa [(iD gq l S).n]);c.c b
def carried(G:Grp)(k:Nat):Grp:=(List.range k).foldl Grp.MB G
def lU(G:Grp)(k:Nat):carried G (k+1)=(carried G k).MB k:=by unfold carried;rw[List.range_succ,List.foldl_append];rfl
def lj(G:Grp)(j:Nat):∀k,(carried G k).b j=if j<k then {G.b j with e:=[]} else G.b j
 |0=>rfl
 |k+1=>by rw[lU];show (if j=k then {(carried G k).b k with e:=[]} else (carried G k).b j)=_;by_cases e:j=k;subst e;rw[if_pos rfl,if_pos ω,lj G j j,if_neg ω];rw[if_neg e,lj G j k];grind
def ti(G:Grp)(h:G.a.length<=G.c)(k:Nat):(carried G k).a.length<=G.c/\(carried G k).n=G.n/\(carried G k).d=G.d/\(carried G k).c=G.c:=
 let ⟨d,c,b,a⟩:=jG _ G h
 ⟨by rwa [<-a],c,b,a⟩
def rG(a:List (Int×ϝ))(q:Nat):(Grp.MT a q).length<=a.length:=by unfold Grp.MT;grind
def GW.round(a:GW G){i:Nat}(c:i<G.n):Wf (G.MU.b i)/\(G.MU.b i).e.length<=60000+6*(1+(G.MU.b i).o.length):=by have d:=a.a i c;refine⟨d.b6 _,?_⟩;have b:=Br d.c (Grp.MT G.a i);unfold cS at b;rw[a.snt i c]at b;have h:=rG G.a i;have g:=a.net;have f:=a.lim;have e:G.MU.b i=(G.b i).Nc (Grp.MT G.a i):=rfl;grind
end
section
open Codec (Msg Frame)
variable {Q:Int}{u:Nat}
section
structure Gh where
 d:Int->Nat->Nat->Int
 t:Int->Nat->Int->Υ
 k:Int->Nat->Int->Nat
 N:Nat
 D:Υ
 f:Int->Int->Prop
 e:Int->Int->Int->Prop
 j:Int->Nat->Int->Int->Int->Prop
 h:Int->Nat->Int->Prop
def Gh.a(X:Gh)(n:Nat)(v:Int):Int:=if v.toNat=0 then 2^n-1 else (X.D[v.toNat-1]?).getD 0
def N6(A B:Int):Prop:=∀q,aV A q=true->aV B q=true
def P7(A B:Int):Prop:=ir A<2*ir B
def Dn(cr:Book)(A:Int):Prop:=∀q,aV A q=true->cr q=true
def Up(cr:Book)(n:Nat)(A:Int):Prop:=∀q,q<n->cr q=false->aV A q=true
def NK{p q a:Nat->Bool}(c:∀x,p x=true->a x=true)(b:∀x,q x=true->a x=true):∀l:Ϙ,(∀x∈l,p x=true->q x=false)->(l.filter p).length+(l.filter q).length<=(l.filter a).length
 |[],_=>by simp
 |x::l,h=>by have e:=NK c b l λy d=>(by grind);grind
def Qe{A P:Int}(b:N6 P A)(c:N6 Q A)(a:P7 A P)(d:P7 A Q):∃q,aV P q=true/\aV Q q=true:=by refine Classical.byContradiction λf=>?_;have:=NK b c (List.range 6) λx _ e=>ν;grind[P7,ir,iX]
def Qm(X:Gh)(n:Nat)(v Q:Int):Prop:=N6 Q (X.a n v)/\P7 (X.a n v) Q
structure XI(X:Gh)(cr:Book)(n:Nat):Prop where
 c0:∀v q s,0<=X.d v q s
 le:∀v q s,X.d v q s<=X.d v s s
 z:∀v s k,X.k v s k<X.N
 tm:∀v s k,1<=k->k<=X.d v s s->(∀k',1<=k'->k'<k->X.k v s k'<X.k v s k)/\∀t,t≠s->∀k',1<=k'->k'<=(X.t v s k).getD t 0->X.k v t k'<X.k v s k
 cl:∀v q s k,1<=k->k<=X.d v q s->∀t,t≠s->(X.t v s k).getD t 0<=X.d v q t
 mb:∀v s,aV (X.a n v) s=false->X.d v s s=0
 f:∀v b,X.f v b->0<b/\b%8<n/\(∀r:Nat,(r:Int)<b%8->cr r=true)/\b/8<=7*(b%8)+6/\0<=v/\v.toNat<=X.D.length/\∃c,aV (X.a n v) c=true/\cr c=true
 y:∀v b m m',X.e v b m->X.e v b m'->m=m'
 a1:∀v p b,X.h v p b->∃m,X.e v b m
 e:∀v b m,X.e v b m->∃(Q:Int)(as:Nat->Int×Int),Qm X n v Q/\(∀q,aV Q q=true->X.j v q b (as q).1 (as q).2/\(as q).1<b)/\
   ((∀q,aV Q q=true->(as q).1=0)\/∃q,aV Q q=true/\(as q).1≠0/\(∀p,aV Q p=true->(as p).1<=(as q).1)/\m=(as q).2)
 h:∀v q b u m,X.j v q b u m->(u=0\/X.e v u m)/\0<=u/\u<=b/\∀b',X.h v q b'->b'<b->b'<=u
 g:∀(u:Nat)m,X.D[u]?=some m->∃b Q,X.e u b m/\Qm X n u Q/\∀q,aV Q q=true->X.h u q b
 a:∀v b m,X.e v b m->X.f v b/\N6 m (X.a n v)/\bj m/\Up cr n m/\∃c,aV (X.a n v) c=true/\aV m c=false
variable {X X' Y:Gh}{cr cr':Book}{n i:Nat}{v b m:Int}
def XI.a0(h:XI X cr n)(l:X.e v b m)(o:Qm X n v Q)(x:∀q,aV Q q=true->X.h v q b):∀(k:Nat)c d,X.e v c d->b<=c->c.toNat<=k->d=m:=by
 intro k;induction k with
 |zero=>intro c d g _ B;have:=(h.f v c (h.a v c d g).1).1;omega
 |succ k A=>
  intro c d g I B;by_cases e:b=c;subst e;exact h.y v b d m g l;obtain⟨L,F,s,j,t⟩:=h.e v c d g;obtain⟨q,C,r⟩:=Qe o.1 s.1 o.2 s.2;have E:=(h.h v q _ _ _ (j q r).1).2.2.2 b (x q C) ω;have H:=(h.f v b (h.a v b m l).1).1;rcases t with t|⟨p,w,z,D,rfl⟩;grind;have K:=(j p w).2;have G:=D q r;exact A _ _ ((h.h v p _ _ _ (j p w).1).1.resolve_left z) ω ω
def XI.a3(h:XI X cr n){a:Int}(l:X.D[u]?=some a)(d:X.e u b m)(r:Qm X n u Q)(j:∀q,aV Q q=true->X.h u q b):m=a:=by let⟨k,s,f,p,o⟩:=h.g u a l;rcases Int.le_total b k with c|c;exact(h.a0 d r j _ _ _ f c Ϫ).symm;exact h.a0 f p o _ _ _ d c Ϫ
structure NB(i:Nat)(X X':Gh):Prop where
 d:∀v q s,X.d v q s<=X'.d v q s/\(q≠i->X'.d v q s=X.d v q s)
 t:∀v s k,k<=X.d v s s->X'.t v s k=X.t v s k
 D:∃l,X'.D=X.D++l
 bl:∀v b,X.f v b->X'.f v b
 g:∀v b,X'.f v b->X.f v b\/b%8=i
 pr:∀v b m,X.e v b m->X'.e v b m
 h:∀v b m,X'.e v b m->X.e v b m\/b%8=i
 an:∀v q b u m,X.j v q b u m->X'.j v q b u m
 f:∀v q b u m,X'.j v q b u m->X.j v q b u m\/q=i
 vt:∀v q b,X.h v q b->X'.h v q b
 j:∀v q b,X'.h v q b->X.h v q b\/q=i
theorem NB.a(i:Nat)(X:Gh):NB i X X:=⟨λ_ _ _=>⟨ϭ,λ_=>rfl⟩,λ_ _ _ _=>rfl,⟨[],ς⟩,λ_ _ h=>h,λ_ _ h=>.inl h,λ_ _ _ h=>h,λ_ _ _ h=>.inl h,λ_ _ _ _ _ h=>h,λ_ _ _ _ _ h=>.inl h,λ_ _ _ h=>h,λ_ _ _ h=>.inl h⟩
def NB.c(h:NB i X X')(k:NB i X' Y):NB i X Y:=
 let ⟨l,e⟩:=h.D
 let ⟨c,o⟩:=k.D
 ⟨λv q s=>⟨Int.le_trans (h.d v q s).1 (k.d v q s).1,λe=>((k.d v q s).2 e).trans ((h.d v q s).2 e)⟩,λv s x a=>(k.t v s x (Int.le_trans a (h.d v s s).1)).trans (h.t v s x a),⟨l++c,by grind⟩,λv b a=>k.bl v b (h.bl v b a),λv b a=>(k.g v b a).elim (h.g v b) .inr,λv b m a=>k.pr v b m (h.pr v b m a),λv b m a=>(k.h v b m a).elim (h.h v b m) .inr,λv q b u m a=>k.an v q b u m (h.an v q b u m a),λv q b u m a=>(k.f v q b u m a).elim (h.f v q b u m) .inr,λv q b a=>k.vt v q b (h.vt v q b a),λv q b a=>(k.j v q b a).elim (h.j v q b) .inr⟩
def NB.e(e:NB i X X')(h:X.D[u]?=some m):X'.D[u]?=some m:=by grind[D]
def NB.p(e:NB i X X'):X.D.length<=X'.D.length:=by grind[D]
def NB.o(h:NB i X X')(c:v.toNat<=X.D.length):X'.a n v=X.a n v:=by grind[D,Gh.a]
end
section
def NC(X:Gh)(n:Nat)(v:Int)(m:Msg):Prop:=aV (X.a n v) m.a.toNat=true/\1<=m.seq/\m.seq<=X.d v m.a.toNat m.a.toNat/\X.t v m.a.toNat m.seq=m.c/\m.c.length=n/\m.c.getD m.a.toNat 0=m.seq
structure BI(X:Gh)(cr:Book)(i:Nat)(S:PS)(B:Bal):Prop where
 num:B.g=S.g
 e:0<B.g
 h:B.g%8=i
 out:Dn cr B.out
 k:N6 B.out S.k
 d:bj B.out
 g:B.a=cX S.m B.out
 l:B.g/8<=7*i+ir B.out
 o:∃c,aV S.m c=true/\aV B.out c=true
 gath:B.e=true->(∀m,¬X.e S.b B.g m)/\N6 B.c B.a/\(∀a∈B.i,∃q,aV B.c q=true/\X.j S.b q B.g a.2.b a.2.m)/\∀q,aV B.c q=true->∃a∈B.i,X.j S.b q B.g a.2.b a.2.m
 vote:B.e=false->S.a.b=B.g/\N6 B.d S.m/\∀q,aV B.d q=true->X.h S.b q B.g
structure PJ(X:Gh)(cr:Book)(n i:Nat)(S:PS):Prop where
 a:S.b.toNat<=X.D.length
 mem:S.m=X.a n S.b
 c:aV S.m i=true
 left:∀(u:Nat)e,S.i[u]?=some e->X.D[u]?=some e.m/\e.a.length=n/\∀m∈e.b,NC X n u m
 vt:∀v b,X.h v i b->v<=S.b/\(v=S.b->b<=S.a.b)
 an:∀v b u m,X.j v i b u m->v<=S.b/\(v=S.b->b<=S.g)
 bl:∀v b,X.f v b->b%8=i->v<=S.b/\(v=S.b->b<=S.g)
 vote:S.a.b<=S.g/\(S.a.b≠0->X.h S.b i S.a.b/\X.e S.b S.a.b S.a.m)
 prom:0<S.g->X.f S.b S.g
 p:S.h=true->0<S.g
 o:0<S.g->S.g%8=i->S.d≠none
 sus:Dn cr S.k
 lead:∀B,S.d=some B->BI X cr i S B
 ms:∀m∈S.o,NC X n S.b m
 row:∀s,s<n->X.d S.b i s=S.Ml.getD s 0
 l:∀v s,S.b<v->X.d v i s=0
 kn:∀q,q<n->∀s,s<n->(S.q.getD q []).getD s 0<=X.d S.b q s
 g:∀s:Nat,s<n->∀k,1<=k->k<=S.Ml.getD s 0->(∃m∈S.o,m.a=s/\m.seq=k)\/∀q,q<n->aV S.m q=true->k<=X.d S.b q s
def To(n:Nat)(f:Frame):Prop:=∃q:Nat,q<n/\f.j=q
structure OB(X:Gh)(cr:Book)(n:Nat)(f:Frame):Prop where
 g:To n f
 k:0<=f.h/\f.h.toNat<=X.D.length
 o:∀m∈f.d,NC X n f.h m
 row:f.c=1\/f.c=2\/f.c=4->∀s,s<n->f.g.getD s 0<=X.d f.h f.f.toNat s
 e:f.c=2\/f.c=3\/f.c=5->0<f.a->X.f f.h f.a
 l:f.c=3->Dn cr f.b
 u:f.c=4->X.j f.h f.f.toNat f.a f.e f.b
 p:f.c=5->X.e f.h f.a f.b/\f.a%8=f.f
 r:f.c=6->X.h f.h f.f.toNat f.a
 c:f.c=7->X.D[f.h.toNat]?=some f.b
def kb(f:Frame):Prop:=f.c=2\/f.c=3\/f.c=5
def Ob(S:PS)(f:Frame):Prop:=kb f->f.h<=S.b/\(f.h=S.b->f.a<=S.g)
structure LS(X:Gh)(cr:Book)(n i:Nat)(S:PS):Prop where
 x:XI X cr n
 a:Wf S
 num:S.c=i
 d:S.n=n
 g:S.f=cr i
 out:S.out=true->cr i=true
 c:S.out=false->PJ X cr n i S
 snt:∀f∈S.e,Codec.dg f=true/\OB X cr n f/\Ob S f
variable {X X':Gh}{cr cr':Book}{n i j:Nat}{S T:PS}{f:Frame}{v b m:Int}{B:Bal}
def Dn.a(h:Dn cr m)(c:∀q,cr q=true->cr' q=true):Dn cr' m:=λq a=>c q (h q a)
def NC.c{m:Msg}(h:NC X n v m)(e:NB i X X')(a:v.toNat<=X.D.length):NC X' n v m:=⟨by rw[e.o a];exact h.1,h.2.1,Int.le_trans h.2.2.1 (e.d _ _ _).1,by rw[e.t _ _ _ h.2.2.1];exact h.2.2.2⟩
def OB.h(h:OB X cr n f)(e:NB i X X'):OB X' cr n f:=
 ⟨h.g,⟨h.k.1,Nat.le_trans h.k.2 e.p⟩,λm a=>(h.o m a).c e h.k.2,λk s a=>Int.le_trans (h.row k s a) (e.d _ _ _).1,λk p=>e.bl _ _ (h.e k p),h.l,λk=>e.an _ _ _ _ _ (h.u k),λk=>⟨e.pr _ _ _ (h.p k).1,(h.p k).2⟩,λk=>e.vt _ _ _ (h.r k),λk=>e.e (h.c k)⟩
def OB.a(h:OB X cr n f)(c:∀q,cr q=true->cr' q=true):OB X cr' n f:={h with l:=λk=>(h.l k).a c}
def LS.a5(h:LS X cr n j S)(e:NB i X X')(x:XI X' cr n)(c:∀v s,X'.d v j s=X.d v j s)(w:∀v b,X'.h v j b->X.h v j b\/v=S.b/\b<=S.a.b)(G:∀v b u m,X'.j v j b u m->X.j v j b u m\/v=S.b/\b<=S.g)(A:∀v b,X'.f v b->b%8=j->X.f v b\/v=S.b/\b<=S.g)(t:∀B,S.d=some B->B.g%8=j->B.e=true->∀m,X'.e S.b B.g m->X.e S.b B.g m):LS X' cr n j S:=
 {h with
   x:=x
   c:=λo=>by have p:=h.c o;refine {p with a:=Nat.le_trans p.a e.p,mem:=by rw[e.o p.a];exact p.mem,left:=λu y C=>?_,vt:=λv b k=>?_,an:=λv b u m k=>?_,bl:=λv b k a=>?_,vote:=⟨p.vote.1,λk=>⟨e.vt _ _ _ (p.vote.2 k).1,e.pr _ _ _ (p.vote.2 k).2⟩⟩,prom:=λk=>e.bl _ _ (p.prom k),lead:=λB a=>?_,ms:=λm a=>(p.ms m a).c e p.a,row:=λs a=>(c _ _).trans (p.row s a),l:=λv s a=>(c _ _).trans (p.l v s a),kn:=λq a s l=>Int.le_trans (p.kn q a s l) (e.d _ _ _).1,g:=λs a k b l=>(p.g s a k b l).imp id λg q a b=>Int.le_trans (g q a b) (e.d _ _ _).1};have l:=p.left u y C;exact⟨e.e l.1,l.2.1,λm a=>(l.2.2 m a).c e (by grind)⟩;rcases w v b k with k|k;exact p.vt v b k;grind;rcases G v b u m k with k|k;exact p.an v b u m k;grind;rcases A v b k a with k|k;exact p.bl v b k a;grind;have b:=p.lead B a;refine {b with gath:=λg=>?_,vote:=λg=>⟨(b.vote g).1,(b.vote g).2.1,λq r=>e.vt _ _ _ ((b.vote g).2.2 q r)⟩};let⟨H,z,D,E⟩:=b.gath g;exact⟨λm k=>H m (t B a b.h g m k),z,λa F=>(D a F).imp λq k=>⟨k.1,e.an _ _ _ _ _ k.2⟩,λq r=>(E q r).imp λa k=>⟨k.1,e.an _ _ _ _ _ k.2⟩⟩
   snt:=λf a=>⟨(h.snt f a).1,(h.snt f a).2.1.h e,(h.snt f a).2.2⟩}
def LS.le(h:LS X cr n j S)(e:NB i X X')(x:XI X' cr n)(c:j≠i):LS X' cr n j S:=
 h.a5 e x (λv s=>(e.d v j s).2 c) (λv b k=>.inl ((e.j _ _ _ k).resolve_right c)) (λv b u m k=>.inl ((e.f _ _ _ _ _ k).resolve_right c)) (λv b k a=>.inl ((e.g _ _ k).resolve_right λk=>c ω)) λB _ a _ m k=>(e.h _ _ _ k).resolve_right λk=>c ω
def XI.x(h:XI X cr n)(c:∀q,cr q=true->cr' q=true):XI X cr' n:=
 {h with
   f:=λv b k=>by let⟨l,d,o,p,g,r,q,t,s⟩:=h.f v b k;grind
   a:=λv b m k=>
     let ⟨l,d,o,p,g⟩:=h.a v b m k
     ⟨l,d,o,λq a e=>p q a ν,g⟩}
def LS.b7(h:LS X cr n i S)(c:∀q,cr q=true->cr' q=true)(e:cr' i=cr i):LS X cr' n i S:=
 {h with
   x:=h.x.x c
   g:=h.g.trans e.symm
   out:=λk=>c i (h.out k)
   c:=λo=>{h.c o with sus:=(h.c o).sus.a c,lead:=λB a=>{(h.c o).lead B a with out:=((h.c o).lead B a).out.a c}}
   snt:=λf a=>⟨(h.snt f a).1,(h.snt f a).2.1.a c,(h.snt f a).2.2⟩}
def Go(X:Gh)(cr:Book)(n i:Nat)(T:PS):Prop:=∃X',NB i X X'/\LS X' cr n i T
theorem LS.k(h:LS X cr n i S):Go X cr n i S:=⟨X,.a i X,h⟩
def Go.a(h:Go X cr n i S)(k:∀a,NB i X a->LS a cr n i S->Go a cr n i T):Go X cr n i T:=
 let ⟨a,e,l⟩:=h
 let ⟨Y,d,g⟩:=k a e l
 ⟨Y,e.c d,g⟩
def LS.r(h:LS X cr n i S)(k:dh S T)(z:Wf T)(r:T.Ml=S.Ml)(a:S.out=false->(∀m∈T.o,m∈S.o\/NC X n S.b m)/\(∀q,q<n->∀s,s<n->(T.q.getD q []).getD s 0<=X.d S.b q s)/\∀m∈S.o,m∈T.o\/∀q,q<n->aV S.m q=true->m.seq<=X.d S.b q m.a.toNat)(t:∀f∈T.e,f∈S.e\/Codec.dg f=true/\OB X cr n f/\Ob S f):LS X cr n i T:=by refine⟨h.x,z,k.i.trans h.num,k.n.trans h.d,k.d.trans h.g,λo=>h.out (k.out▸o),λo=>?_,λf a=>by unfold Ob;rw[k.a,k.l];exact(t f a).elim (h.snt f) id⟩;have o:=k.out▸o;have p:=h.c o;let⟨u,y,c⟩:=a o;rw[k]at u y c r|-;refine {p with lead:=λB l=>{p.lead B l with},ms:=λm d=>(u m d).elim (p.ms m) id,row:=λs d=>by rw[r];exact p.row s d,kn:=y,g:=λs d x e f=>?_};rw[r]at f;rcases p.g s d x e f with ⟨m,g,w,rfl⟩|g;grind;grind
def LS.a6(h:LS X cr n i S){k:Nat}(s:Sends S T k)(a:∀f∈T.e,f∈S.e\/Codec.dg f=true/\OB X cr n f/\Ob S f):LS X cr n i T:=
 have r:T.Ml=S.Ml:=by rw[s.e];rfl
 h.r s.a (s.d h.a) r (λo=>⟨λm k=>.inl (by rwa [s.e]at k),by rw[s.e];exact(h.c o).kn,λm k=>.inl (by rwa [s.e])⟩) a
def Pu(S:PS)(f:Frame):∀g∈(S.MZ f).e,g∈S.e\/Codec.dg g=true/\g={f with f:=(S.c:Int)}:=λg a=>by grind[PS.MZ]
def LS.l(h:LS X cr n i S)(a:OB X cr n {f with f:=(S.c:Int)})(o:Ob S f:=by unfold Ob kb;simp):LS X cr n i (S.MZ f):=h.a6 (ak S f) λg k=>(Pu S f g k).imp id λe=>⟨e.1,by rw[e.2];exact⟨a,o⟩⟩
def LS.s(h:LS X cr n i S){e:Type}{fr:PS->e->Frame}(l:List e)(a:∀T x,x∈l->(∃k,Sends S T k)->OB X cr n {fr T x with f:=(S.c:Int)}/\Ob S (fr T x)):LS X cr n i (l.foldl (λT x=>T.MZ (fr T x)) S):=
 have:=fT (P:=λT=>(∃k,Sends S T k)/\LS X cr n i T) l S (λT x d⟨⟨k,s⟩,g⟩=>⟨⟨_,s.g (ak T _)⟩,g.l (by rw[s.a.i];grind) (by unfold Ob;rw[s.a.a,s.a.l];exact(a T x d ⟨k,s⟩).2)⟩) ⟨⟨0,.f S⟩,h⟩;this.2
def LS.to(h:LS X cr n i S){j:Nat}{z:Int}(a:j∈iX z S.n)(e:f.j=j):To n f:=⟨j,by grind[d,eX],e⟩
def OB.t(k:f.c=7)(d:To n f)(w:0<=f.h)(a:X.D[f.h.toNat]?=some f.b)(ms:∀m∈f.d,NC X n f.h m):OB X cr n f:=
 ⟨d,⟨w,by grind⟩,ms,ν,ν,ν,ν,ν,ν,λ_=>a⟩
def OB.q(k:f.c=1\/f.c=2)(d:To n f)(w:0<=f.h/\f.h.toNat<=X.D.length)(ms:∀m∈f.d,NC X n f.h m)(r:∀s,s<n->f.g.getD s 0<=X.d f.h f.f.toNat s)(a:f.c=2->0<f.a->X.f f.h f.a):OB X cr n f:=
 ⟨d,w,ms,λ_=>r,ν,ν,ν,ν,ν,ν⟩
end
end
section
open Codec (Msg Frame)
variable {X X':Gh}{cr cr':Book}{n i j:Nat}{S T:PS}{f:Frame}{v b m:Int}{B:Bal}{r cut:Υ}{q s:Nat}{l:List Msg}
def KC(S:PS)(a:q≠S.c)(r:Υ):(S.My q r).Ml=S.Ml:=by show (S.q.set q _).getD S.c []=S.q.getD S.c [];grind
def NR{m:Msg}(d:S.q.length=n)(h:S.Nh m=true):∀q,q<n->aV S.m q=true->m.seq<=(S.q.getD q []).getD m.a.toNat 0:=λq a c=>by grind[PS.Nh,FP]
def Om{p:Msg->Bool}{m:Msg}(h:m∈l):m∈l.filter (λm=>!p m)\/p m=true:=ν
def LS.y(h:LS X cr n i S):LS X cr n i S.M1:=
 h.r rfl h.a.j rfl (λo=>⟨λm k=>.inl (List.mem_filter.1 k).1,(h.c o).kn,λm k=>(Om k).imp id λe q a c=>by let⟨s,l,g⟩:=(h.a.ms m k).s;rw[h.d]at l;exact Int.le_trans (NR (h.a.a.trans h.d) e q a c) ((h.c o).kn q a _ ω)⟩) λ_ k=>.inl k
def PL{a:Υ}(h:s<a.length):(dB a r).getD s 0=max (a.getD s 0) (r.getD s 0):=by grind[dB]
def LS.a3(h:LS X cr n i S)(u:q<n)(A:q≠i)(y:∀x∈r,0<=x/\x<=20)(C:∀s,s<n->r.getD s 0<=X.d S.b q s):LS X cr n i (S.My q r):=by
 have w:=h.a;have l:=w.a.trans h.d;have t:S.out=false->∀p,p<n->∀s,s<n->((S.q.set q (dB (S.q.getD q []) r)).getD p []).getD s 0<=X.d S.b p s:=λo p a s c=>by have:=(h.c o).kn p a s c;grind[dB]
 refine h.r (dq S q r) (w.i (by rwa [h.d]) y) (KC S (by rwa [h.num]) r) (λo=>⟨λm k=>.inl (List.mem_filter.1 k).1,t o,λm k=>(Om k).imp id λe p a c=>?_⟩) λ_ k=>.inl k;let⟨s,z,g⟩:=(w.ms m k).s;rw[h.d]at z;exact Int.le_trans (NR (by grind) e p a c) (t o p a _ ω)
theorem Ki(S:PS)(m:Msg):S.MX m={S with o:=(S.MX m).o}:=by unfold PS.MX;split<;>rfl
theorem F4(S:PS):∀l:List Msg,S.Mc l={S with o:=(S.Mc l).o}:=λl=>by
 unfold PS.Mc;induction l generalizing S with
 |nil=>rfl
 |cons m l a=>grind[Ki]
def Ny(l:List Msg)(S:PS):(∀x∈(S.Mc l).o,x∈S.o\/x∈l)/\∀x∈S.o,x∈(S.Mc l).o:=fT (P:=λT=>(∀x∈T.o,x∈S.o\/x∈l)/\∀x∈S.o,x∈T.o) l S (λT m a h=>by grind[PS.MX]) ⟨λ_ h=>.inl h,λ_ h=>h⟩
def LS.e(h:LS X cr n i S)(g:∀m∈l,MsgW n m)(e:∀m∈l,NC X n S.b m):LS X cr n i (S.Mc l):=
 h.r (bf S l) (h.a.f (by rwa [h.d])) (by rw[F4];rfl) (λo=>⟨λm k=>((Ny l S).1 m k).imp id (e m),by rw[F4];exact(h.c o).kn,λm k=>.inl ((Ny l S).2 m k)⟩) λf a=>.inl (by grind[jL])
def LS.a2(h:LS X cr n i S)(o:S.out=false){d:Int->Nat->Nat->Int}{t:Int->Nat->Int->Υ}{C:Int->Nat->Int->Nat}{N:Nat}(e:NB i X {X with d:=d,t:=t,k:=C,N:=N})(x:XI {X with d:=d,t:=t,k:=C,N:=N} cr n){m:Msg}(L:s<n)(E:m.a=s)(O:m.seq=S.Ml.getD s 0+1)(H:∀v q,d v i q=if v=S.b/\q=s then X.d v i q+1 else X.d v i q)(z:Int){ms:List Msg}(Q:∃y∈ms,y.a=s/\y.seq=m.seq)(D:∀x∈S.o,∃y∈ms,y.a=x.a/\y.seq=x.seq)(I:∀y∈ms,NC {X with d:=d,t:=t,k:=C,N:=N} n S.b y)(F:Wf {S.Ms m z with o:=ms}):LS {X with d:=d,t:=t,k:=C,N:=N} cr n i {S.Ms m z with o:=ms}:=by
 have p:=h.c o;have w:=h.a;have G:∀q,({S.Ms m z with o:=ms}:PS).Ml.getD q 0=if s=q then m.seq else S.Ml.getD q 0:=λq=>by show (S.Ms m z).Ml.getD q 0=_;rw[rE w E z,u4 (by rwa [w.g.1,h.d])]
 have A:∀q,q<n->d S.b i q=({S.Ms m z with o:=ms}:PS).Ml.getD q 0:=λq a=>by have:=p.row q a;grind
 refine⟨x,F,h.num,h.d,h.g,h.out,λ_=>{p with left:=λu y a=>?_,lead:=λB a=>{p.lead B a with},ms:=I,row:=A,l:=λv q a=>?_,kn:=λq a r c=>?_,g:=λq a k c l=>?_},λf a=>⟨(h.snt f a).1,(h.snt f a).2.1.h e,(h.snt f a).2.2⟩⟩;have l:=p.left u y a;exact⟨l.1,l.2.1,λm k=>(l.2.2 m k).c e (by grind)⟩;have a:S.b<v:=a;show d v i q=0;rw[H,if_neg ω];exact p.l v q a;show ((S.q.set S.c _).getD q []).getD r 0<=d S.b q r;by_cases k:q=i;subst k;rw[A r c];unfold PS.Ml;rw[show ({S.Ms m z with o:=ms}:PS).c=q from h.num];exact ϭ;have:=p.kn q a r c;have g:=(e.d S.b q r).1;simp only[List.getD_eq_getElem?_getD,List.getElem?_set_ne (show S.c≠q by grind[num])]at this|-;grind;rw[G]at l;by_cases g:s=q/\k=m.seq;grind;rcases p.g q a k c ν with ⟨y,M,P,K⟩|g;grind;exact .inr λp a b=>Int.le_trans (g p a b) (e.d _ _ _).1
def LS.a0(h:LS X cr n i S)(o:S.out=false){m:Msg}(a:S.Mh cut=some m):∃C,NB i X C/\C.d S.b i i=X.d S.b i i/\LS C cr n i (S.Ms m 2).M1:=by
 obtain⟨k,q,u,A,D,-,g⟩:=dy a;have w:=h.a;have x:=h.x;have p:=h.c o;have c:=p.ms m k;have E:m.a.toNat=q:=ω;rw[NC,E]at c;rw[h.d]at u;have I:=p.row q u
 let d:=λz p t=>if z=S.b/\p=i/\t=q then X.d z p t+1 else X.d z p t
 have F:∀v p t,d v p t=if v=S.b/\p=i/\t=q then X.d v p t+1 else X.d v p t:=λ_ _ _=>rfl
 have e:NB i X {X with d:=d}:={NB.a i X with d:=λv p t=>by grind};have G:XI {X with d:=d} cr n:=by refine {x with c0:=λv p t=>Int.le_trans (x.c0 v p t) (e.d v p t).1,le:=λv p t=>?_,tm:=λv s k a b=>x.tm v s k a ?_,cl:=λv p s k a b t l=>?_,mb:=λv s a=>((F v s s).trans (if_neg ν)).trans (x.mb v s a)};have:=x.le v p t;grind;grind;have b:k<=d v p s:=b;refine Int.le_trans ?_ (e.d v p t).1;by_cases y:k<=X.d v p s;exact x.cl v p s k a y t l;have:v=S.b/\p=i/\s=q:=ν;obtain⟨rfl,rfl,rfl⟩:=this;show (X.t S.b s k).getD t 0<=_;rw[show k=m.seq by grind,c.2.2.2.1];by_cases H:t<n;rw[p.row t H];unfold Hk at g;rw[List.all_eq_true]at g;have:=g t (List.mem_range.2 (by rwa [w.g.1,h.d]));grind;rw[show m.c.getD t 0=0 by grind];exact x.c0 _ _ _
 have l:=h.a2 o e G u A D (λv t=>by grind) 2 ⟨m,k,A,rfl⟩ (λy a=>⟨y,a,rfl,rfl⟩) (λy a=>(p.ms y a).c e p.a) (w.k (by rwa [h.d]) A D (w.ms m k).a 2).1;exact⟨_,e,by grind,l.y⟩
def LS.h:∀(k:Nat){X:Gh}{S:PS}(g:Υ),LS X cr n i S->S.out=false->∃p,NB i X p/\p.d S.b i i=X.d S.b i i/\LS p cr n i (PS.Mt k S g)
 |0,X,_,_,h,_=>⟨X,.a i X,rfl,h⟩
 |k+1,X,S,g,h,o=>by rw[PS.Mt];split;grind[NB.a];obtain⟨p,e,a,l⟩:=h.a0 o ‹_›;let⟨Y,u,w,t⟩:=LS.h k g l o;exact⟨Y,e.c u,w.trans a,t⟩
def LS.t(h:LS X cr n i S)(o:S.out=false)(c:Υ):Go X cr n i (S.Mb c):=(LS.h 121 c h o).imp λ_ a=>⟨a.1,a.2.2⟩
def LS.u(h:LS X cr n i S)(o:S.out=false)(w:S.g<=b)(x:nD b)(k:0<b)(l:X.f S.b b)(j:b%8=i->b=S.g):LS X cr n i (S.MH b):=by
 have p:=h.c o;refine {h with a:=h.a.a0 x,c:=λ_=>{p with an:=λv t u m k=>⟨(p.an v t u m k).1,λe=>Int.le_trans ((p.an v t u m k).2 e) w⟩,bl:=λv t k a=>⟨(p.bl v t k a).1,λe=>Int.le_trans ((p.bl v t k a).2 e) w⟩,vote:=⟨Int.le_trans p.vote.1 w,p.vote.2⟩,prom:=λ_=>l,p:=λ_=>k,o:=λ_ e=>?_,lead:=λB a=>?_},snt:=λf a=>⟨(h.snt f a).1,(h.snt f a).2.1,λk=>⟨((h.snt f a).2.2 k).1,λe=>Int.le_trans (((h.snt f a).2.2 k).2 e) w⟩⟩}
 .have d:=j e;have c:=p.o ω (by rwa [<-d]);rcases a:S.d with _|B;grind;show (if S.MY b then S.d else none)≠none;have:S.MY b=true:=by unfold PS.MY;rw[a,d];simpa using (p.lead B a).num
  grind
 have a:(if S.MY b then S.d else none)=some B:=a;split at a
 .rename_i c
  unfold PS.MY at c;rw[a]at c;simp at c;exact {p.lead B a with num:=c}
 cases a
def LS.b5(h:LS X cr n i S)(o:S.out=false)(e:S.g<=b)(d:nD b)(k:0<b)(l:X.f S.b b)(j:b%8=i->b=S.g):LS X cr n i (S.Mx b):=
 have g:=h.u o e d k l j;have p:=g.c o
 {g with a:=h.a.s d,c:=λ_=>{p with p:=λ_=>k,lead:=λB a=>{p.lead B a with}}}
def LS.w(h:LS X cr n i S){x:Int}(p:bj x)(d:Dn cr x):LS X cr n i (S.suspect x):=by have w:=h.a;have e:=tj w.sus (p.d.g (y:=aO S.c) (x:=fK x S.m));refine {h with a:=w.suspect p,c:=λo=>{h.c o with sus:=λq a=>?_,lead:=λB l=>{(h.c o).lead B l with k:=λq a=>?_}}};have a:aV (j9 S.k _) q=true:=a;rw[e,Bool.or_eq_true,lX p.d w.b5,gn p w.mem]at a;rcases a with a|a;exact(h.c o).sus q a;exact d q ν;show aV (j9 S.k _) q=true;rw[e,((h.c o).lead B l).k q a];rfl
def LS.z(h:LS X cr n i S)(k:lh n S.a B)(g:S.out=false->BI X cr i S B):LS X cr n i {S with d:=some B}:=
 {h with a:=h.a.e h.a.vote (by grind[d]),c:=λo=>{h.c o with o:=λ_ _=>nofun,lead:=λC e=>by cases e;exact {g o with}}}
def Gh.o(X:Gh)(v:Int)(i:Nat)(b u m:Int):Gh:={X with j:=λv' q b' u' m'=>X.j v' q b' u' m'\/(v'=v/\q=i/\b'=b/\u'=u/\m'=m)}
def NI(X:Gh)(v:Int)(i:Nat)(b u m:Int):NB i X (X.o v i b u m):={NB.a i X with an:=λ_ _ _ _ _ h=>.inl h,f:=λ_ _ _ _ _ h=>h.imp id λh=>h.2.1}
def PJ.t(p:PJ X cr n i S)(x:XI X cr n)(w:Wf S)(A:S.g<=b):XI (X.o S.b i b S.a.b S.a.m) cr n:=by refine {x with e:=λv b m k=>?_,h:=λv q b u m k=>?_};let⟨Q,y,z,d,C⟩:=x.e v b m k;exact⟨Q,y,z,λq c=>⟨.inl (d q c).1,(d q c).2⟩,C⟩;rcases k with k|⟨rfl,rfl,rfl,rfl,rfl⟩;exact x.h v q b u m k;refine⟨?_,w.vote.1,Int.le_trans p.vote.1 A,λt k _=>(p.vt _ t k).2 rfl⟩;by_cases e:S.a.b=0;omega;exact .inr (p.vote.2 e).2
def LS.b3(h:LS X cr n i S)(o:S.out=false):LS (X.o S.b i S.g S.a.b S.a.m) cr n i S:=
 h.a5 (NI ..) ((h.c o).t h.x h.a ϭ) (λ_ _=>rfl) (λ_ _=>.inl) (λv b u m k=>by rcases k with k|⟨rfl,-,rfl,rfl,rfl⟩;grind;omega) (λ_ _ k _=>.inl k) λ_ _ _ _ _ k=>k
def Gh.g(X:Gh)(v:Int)(i:Nat)(b m:Int):Gh:={X with e:=λv' b' m'=>X.e v' b' m'\/(v'=v/\b'=b/\m'=m),h:=λv' q b'=>X.h v' q b'\/(v'=v/\q=i/\b'=b)}
def LS.a7(h:LS X cr n i S)(o:S.out=false){V:Vote}(N:V.b=S.g)(U:X.e S.b V.b V.m\/V.b%8=i)(R:∀z,X.e S.b V.b z->z=V.m)(K:∃(Q:Int)(t:Nat->Int×Int),Qm X n S.b Q/\(∀q,aV Q q=true->X.j S.b q V.b (t q).1 (t q).2/\(t q).1<V.b)/\((∀q,aV Q q=true->(t q).1=0)\/∃q,aV Q q=true/\(t q).1≠0/\(∀p,aV Q p=true->(t p).1<=(t q).1)/\V.m=(t q).2))(G:X.f S.b V.b/\N6 V.m (X.a n S.b)/\bj V.m/\Up cr n V.m/\∃c,aV (X.a n S.b) c=true/\aV V.m c=false){L:Option Bal}(E:Wf {S with a:=V,d:=L})(F:S.g%8=i->L≠none)(I:∀B,L=some B->BI (X.g S.b i V.b V.m) cr i {S with a:=V} B):NB i X (X.g S.b i V.b V.m)/\LS (X.g S.b i V.b V.m) cr n i {S with a:=V,d:=L}:=by
 have p:=h.c o;have x:=h.x;have e:NB i X (X.g S.b i V.b V.m):={NB.a i X with pr:=λ_ _ _ h=>.inl h,h:=λ_ _ _ k=>k.elim .inl λ⟨a,b,c⟩=>by grind,vt:=λ_ _ _ h=>.inl h,j:=λ_ _ _ h=>h.imp id λh=>h.2.1};refine⟨e,?_,E,h.num,h.d,h.g,h.out,λ_=>{p with left:=p.left,vt:=λv b k=>?_,vote:=⟨Int.le_of_eq N,λ_=>⟨.inr ⟨rfl,rfl,rfl⟩,.inr ⟨rfl,rfl,rfl⟩⟩⟩,o:=λ_=>F,lead:=λB a=>{I B a with},ms:=p.ms},λf a=>⟨(h.snt f a).1,(h.snt f a).2.1.h e,(h.snt f a).2.2⟩⟩
 .refine {x with y:=λv b m z k w=>?_,a1:=λv q b k=>?_,e:=λv b m k=>?_,h:=λv q b u m k=>?_,g:=λu m k=>?_,a:=λv b m k=>?_}
  .rcases k with k|⟨rfl,rfl,rfl⟩<;>rcases w with w|⟨P,W,rfl⟩;exact x.y v b m z k w;grind;grind
   rfl
  rcases k with k|⟨rfl,rfl,rfl⟩;exact(x.a1 v q b k).imp λ_ k=>.inl k;exact⟨V.m,.inr ⟨rfl,rfl,rfl⟩⟩;rcases k with k|⟨rfl,rfl,rfl⟩;exact x.e v b m k;exact K
  .let⟨a,A,c,d⟩:=x.h v q b u m k;refine⟨a.imp id .inl,A,c,λA w D=>?_⟩;rcases w with w|⟨rfl,rfl,rfl⟩;grind;have:=(p.an _ _ _ _ k).2 rfl;omega
  let⟨b,Q,M,H,O⟩:=x.g u m k;exact⟨b,Q,.inl M,H,λq C=>.inl (O q C)⟩;rcases k with k|⟨rfl,rfl,rfl⟩;exact x.a v b m k;exact G
 rcases k with k|⟨rfl,-,rfl⟩;have a:=p.vt v b k;have:=p.vote.1;grind;simp
end
section
open Codec (Msg Frame)
variable {X X':Gh}{cr cr':Book}{n i j:Nat}{S T:PS}{f:Frame}{v b m:Int}{B:Bal}{r cut:Υ}{x y:Int}{q:Nat}
def Px(a:N6 x y):ir x<=ir y:=by have h:=λq=>a q;rw[pz,pz];grind
def OP(c:bj x)(h:N6 x y)(i:q<6)(j:aV x q=false)(l:aV y q=true):ir x<ir y:=by
 have:=Bz c i j;have:=Px λp a=>by rw[tj c (.c i),Bool.or_eq_true,u5,decide_eq_true_eq]at a;rcases a with a|a;exact h p a;grind
 omega
def N3(c:bj x)(g:bj y)(h:N6 x y)(d:x≠y):ir x<ir y:=by
 obtain⟨q,j,l⟩:∃q,aV x q=false/\aV y q=true:=Classical.byContradiction λo=>d (c.e g λq=>by
  cases e:aV x q with
  |true=>rw[h q e]
  |false=>grind)
 exact OP c h (zW g l) j l
def Pp{r:Nat}(h:Ik x=q)(i:r<q)(g:r<6):aV x r=false:=by
 cases e:aV x r;rfl;have a:=eX.2 ⟨g,e⟩;have c:(iX x 6).Pairwise _:=List.Pairwise.filter _ List.pairwise_lt_range;unfold Ik at h;match d:iX x 6 with
 |[]=>grind
 |y::l=>
  grind[List.rel_of_pairwise_cons]
def XI.up(x:XI X cr n)(c:n<=6)(d:v.toNat<=X.D.length):Up cr n (X.a n v):=by unfold Gh.a;split;have:∀n,n<7->∀q,q<n->aV (2^n-1) q=true:=θ;exact λq a _=>this n ω q a;obtain⟨m,e⟩:∃m,X.D[v.toNat-1]?=some m:=⟨_,List.getElem?_eq_getElem ω⟩;obtain⟨b,Q,a,-⟩:=x.g _ _ e;rw[e];exact(x.a _ _ _ a).2.2.2.1
def PJ.w(p:PJ X cr n i S)(x:XI X cr n)(c:n<=6):Up cr n S.m:=by rw[p.mem];exact x.up c p.a
def LS.b2(h:LS X cr n i S)(o:S.out=false)(z:cr i=false)(u:S.M4=true)(a:S.Nb=true):S.g/8+1<=7*i+ir S.k/\ir S.k<=6:=by
 have w:=h.a;have q:=h.c o;unfold PS.M4 at u;simp only[Bool.and_eq_true,decide_eq_true_eq]at u;have v:1<=ir S.k:=by have:=N3 .b w.sus (λq o=>by simp[aV]at o) λe=>u.1 e.symm;omega
 refine⟨?_,(tz _ _)⟩;have y:=w.prom.1;by_cases s:S.g=0;omega;obtain⟨-,-,c,t,-⟩:=h.x.f _ _ (q.prom ω);have r:¬(i<S.g%8):=λk=>by grind
 by_cases e:S.g%8=i
 .have:=q.o ω e;rcases d:S.d with _|B;grind;have l:=q.lead B d;unfold PS.Nb at a;rw[d]at a;simp at a;have:=N3 l.d w.sus l.k a;have:=l.l;grind[BI.num]
 omega
def LS.b6(h:LS X cr n i S)(o:S.out=false)(a:S.M4=true){r:Nat}(d:r<i):cr r=true:=by
 have w:=h.a;have g:=h.num;have k:=h.d;have:=w.num;have:=w.c;unfold PS.M4 at a;simp only[Bool.and_eq_true,decide_eq_true_eq]at a;have:=Pp a.2 (r:=r) ω ω;rw[lX w.mem w.sus]at this;cases e:cr r with
 |true=>rfl
 |false=>
  have:=(h.c o).sus r;have:=(h.c o).w h.x ω r ω e;grind
def Gh.l(X:Gh)(v b:Int):Gh:={X with f:=λv' b'=>X.f v' b'\/(v'=v/\b'=b)}
def LS.a9(h:LS X cr n i S)(o:S.out=false)(z:cr i=false)(u:S.M4=true)(a:S.Nb=true):∃F,NB i X F/\LS F cr n i S.l/\F.f S.b ((S.g/8+1)*8+S.c):=by
 have w:=h.a;have p:=h.c o;have d:=h.b2 o z u a;have A:=h.num;have:=h.d;have V:=w.num;have W:=w.c;have Y:=w.prom.1;have H:((S.g/8+1)*8+(S.c:Int))%8=i:=ω;have E:=u;unfold PS.M4 at E;simp only[Bool.and_eq_true,decide_eq_true_eq]at E;obtain⟨c,D⟩:∃c,aV S.k c=true:=Classical.byContradiction λk=>E.1 (w.sus.e .b λq=>by simp_all[aV])
 have R:aV S.m c=true:=by have k:=gn w.sus w.mem c;rw[w.h.1,D]at k;simpa using k.symm
 have O:XI (X.l S.b ((S.g/8+1)*8+S.c)) cr n:=by refine {h.x with f:=λv b k=>?_,a:=λv b m k=>⟨.inl (h.x.a v b m k).1,(h.x.a v b m k).2⟩};rcases k with k|⟨rfl,rfl⟩;exact h.x.f v b k;exact⟨ω,ω,λr k=>h.b6 o u ω,ω,w.view.1,p.a,c,by show aV (X.a n S.b) c=true;rwa [<-p.mem],p.sus c D⟩
 have L:NB i X (X.l S.b ((S.g/8+1)*8+S.c)):={NB.a i X with bl:=λ_ _ h=>.inl h,g:=λ_ _ h=>h.imp id λh=>by omega};have I:=L.c (NI _ S.b i ((S.g/8+1)*8+S.c) S.a.b S.a.m);have U:=w.b1 ω;refine⟨_,I,⟨?_,w.y ω,A,h.d,h.g,h.out,λ_=>?_,λf k=>⟨(h.snt f k).1,(h.snt f k).2.1.h I,λl=>⟨((h.snt f k).2.2 l).1,λe=>Int.le_trans (((h.snt f k).2.2 l).2 e) (by show S.g<=(S.g/8+1)*8+(S.c:Int);omega)⟩⟩⟩,.inr ⟨rfl,rfl⟩⟩;refine {O with e:=λv b m k=>?_,h:=λv q b u m k=>?_};let⟨Q,M,N,K,P⟩:=h.x.e v b m k;exact⟨Q,M,N,λq G=>⟨.inl (K q G).1,(K q G).2⟩,P⟩;exact(p.t h.x w (b:=(S.g/8+1)*8+S.c) ω).h v q b u m k;refine {p with left:=p.left,an:=λv b u m k=>?_,bl:=λv b k a=>?_,vote:=⟨Int.le_trans p.vote.1 (by show S.g<=(S.g/8+1)*8+(S.c:Int);omega),p.vote.2⟩,prom:=λ_=>.inr ⟨rfl,rfl⟩,p:=λ_=>?_,o:=λ_ _=>nofun,lead:=λC e=>?_,ms:=p.ms};rcases k with k|⟨rfl,-,rfl,rfl,rfl⟩;exact⟨(p.an v b u m k).1,λe=>Int.le_trans ((p.an v b u m k).2 e) (by show S.g<=(S.g/8+1)*8+(S.c:Int);omega)⟩;exact⟨ϭ,λ_=>ϭ⟩;rcases k with k|⟨rfl,rfl⟩;exact⟨(p.bl v b k a).1,λe=>Int.le_trans ((p.bl v b k a).2 e) (by show S.g<=(S.g/8+1)*8+(S.c:Int);omega)⟩;exact⟨ϭ,λ_=>ϭ⟩;show 0<(S.g/8+1)*8+(S.c:Int);omega;cases e;have s:S.p.c=aO S.c:=pB _;refine⟨rfl,by show 0<(S.g/8+1)*8+(S.c:Int);omega,H,p.sus,λ_ k=>k,w.sus,rfl,by show ((S.g/8+1)*8+(S.c:Int))/8<=7*(i:Int)+ir S.k;omega,⟨c,R,D⟩,λ_=>⟨λm k=>?_,λq k=>?_,λa k=>?_,λq k=>?_⟩,nofun⟩;have:(S.g/8+1)*8+(S.c:Int)<=S.g:=(p.bl _ _ (h.x.a _ _ _ k).1 H).2 rfl;omega;rw[s,u5,decide_eq_true_eq]at k;subst k;show aV (cX S.m S.k) S.c=true;rw[lX w.mem w.sus,w.h.2,A,p.c];rfl;rw[List.mem_singleton.1 k];exact⟨i,by grind[u5],.inr ⟨rfl,rfl,rfl,rfl,rfl⟩⟩;rw[s,u5,decide_eq_true_eq]at k;exact⟨_,List.mem_singleton.2 rfl,.inr ⟨rfl,ω,rfl,rfl,rfl⟩⟩
def Nw:∀(l:List (Υ×Vote))(v:Vote),v.b<=(l.foldl (λv a=>if v.b<a.2.b then a.2 else v) v).b/\∀a∈l,a.2.b<=(l.foldl (λv a=>if v.b<a.2.b then a.2 else v) v).b
 |[],v=>⟨ϭ,nofun⟩
 |a::l,v=>by have c:=Nw l (if v.b<a.2.b then a.2 else v);grind
def LS.a4(h:LS X cr n i S)(o:S.out=false)(I:S.d=some B)(V:B.e=true)(W:B.c=B.a)(P:S.Nj B.c=true):Go X cr n i {S with d:=some {B with e:=false,d:=aO S.c},a:=B.b}:=by
 have p:=h.c o;have w:=h.a;have b:=p.lead B I;have O:=w.lead B I;have x:=h.x;let⟨g1,g2,M,N⟩:=b.gath V;have L:=Nw B.i ⟨0,0,[]⟩;have Y:∀a∈B.i,0<=a.2.b/\a.2.b<B.g/\(a.2.b≠0->X.e S.b a.2.b a.2.m):=λa k=>by obtain⟨q,-,d⟩:=M a k;obtain⟨D,G,c3,-⟩:=x.h _ _ _ _ _ d;refine⟨G,?_,λe=>D.resolve_left e⟩;rcases D with c|c;have:=b.e;omega;grind
 have u:B.b.b=B.g:=by unfold Bal.b;split<;>rfl
 have R:N6 B.a S.m:=λq k=>by rw[b.g,lX w.mem b.d,Bool.and_eq_true]at k;exact k.1
 have F:Qm X n S.b B.a:=by unfold PS.Nj at P;rw[decide_eq_true_eq,W]at P;exact⟨by rwa [<-p.mem],by rwa [<-p.mem]⟩
 have H:(∀a∈B.i,a.2.b=0)/\B.b.m=B.a\/∃a∈B.i,a.2.b≠0/\(∀c∈B.i,c.2.b<=a.2.b)/\B.b.m=a.2.m:=by unfold Bal.b;by_cases e:B.h.b=0;rw[if_pos e];refine .inl ⟨λa k=>?_,rfl⟩;have:a.2.b<=B.h.b:=L.2 a k;grind;rw[if_neg e];obtain⟨a,k,d⟩:∃a∈B.i,B.h=a.2:=(xM (λv=>v.b=0\/∃a∈B.i,v=a.2) (.inl rfl) λa k=>(by grind)).resolve_left e;refine .inr ⟨a,k,by grind,λc l=>?_,by rw[d]⟩;have:c.2.b<=B.h.b:=L.2 c l;grind
 obtain⟨s,E⟩:∃s:Nat->Int×Int,∀q,aV B.a q=true->X.j S.b q B.g (s q).1 (s q).2/\∃a∈B.i,s q=(a.2.b,a.2.m):=
  ⟨λq=>if k:aV B.c q=true then ((Classical.choose (N q k)).2.b,(Classical.choose (N q k)).2.m) else (0,0),λq k=>by grind⟩
 have A:∀q,aV B.a q=true->(s q).1<B.g:=λq k=>by grind
 have U:∀a∈B.i,a.2.b≠0->N6 a.2.m (X.a n S.b)/\bj a.2.m/\Up cr n a.2.m/\∃c,aV (X.a n S.b) c=true/\aV a.2.m c=false:=λa k e=>(x.a _ _ _ ((Y a k).2.2 e)).2;have z:=h.a7 o (V:=B.b) (by rw[u,b.num]) (.inr (by grind[BI.h])) (λm k=>(by grind)) ?_ ⟨by rw[u,b.num];exact p.prom (by rw[<-b.num];exact b.e),?_⟩ (L:=some {B with e:=false,d:=aO S.c}) (w.a5 O) (λ_=>nofun) λC e=>?_;exact⟨_,z.1,z.2⟩
 .rw[u];rcases H with ⟨d,-⟩|⟨a,k,d,l,e⟩;refine⟨B.a,s,F,λq k=>⟨(E q k).1,A q k⟩,.inl λq k=>?_⟩;grind;let⟨K,Z,e2⟩:=M a k;have Q:∀q,aV B.a q=true->(s q).1<=a.2.b:=λq k=>by grind
  refine⟨B.a,λq=>if q=K then (a.2.b,a.2.m) else s q,F,λq t=>?_,.inr ⟨K,by grind,?_,λq t=>?_,?_⟩⟩;grind;simp[d];grind;grind
 .rcases H with ⟨-,d⟩|⟨a,k,d,-,e⟩;rw[d];refine⟨F.1,O.asked,λq k c=>?_,?_⟩;rw[b.g,lX w.mem b.d,p.w x (by grind[d,Wf.c]:n<=6) q k c];have:=b.out q;grind;grind[BI.o,PJ.mem,BI.g,lX,Wf.mem,BI.d];grind
 cases e;refine {b with gath:=nofun,vote:=λ_=>⟨u,λq k=>?_,λq k=>?_⟩}<;>rw[u5,decide_eq_true_eq,h.num]at k<;>subst k;exact p.c;exact .inr ⟨rfl,rfl,u.symm⟩
end
section
open Codec (Msg Frame)
variable {X X':Gh}{cr cr':Book}{n i j:Nat}{S T:PS}{f:Frame}{v b m:Int}{B:Bal}{r cut:Υ}
def Oe(l:List (Υ))(q s:Nat):((l.map λr=>List.replicate r.length (0:Int)).getD q []).getD s 0=0:=by grind
def LS.install(h:LS X cr n i S)(o:S.out=false)(A:X.D[S.b.toNat]?=some m)(G:cut.length=n)(E:S.b<2147483648):Go X cr n i (S.install m cut):=by
 refine(h.t o cut).a λX H k=>LS.k ?_;have A:=H.e A;have e:=eh S cut;have x:=k.x;have F:=h.a.view.1;obtain⟨b,Q,I,-⟩:=x.g _ _ A;have g:=x.a _ _ _ I;unfold PS.install;rw[h.num];rw[<-e.a]at A E F;rw[<-e.out]at o;generalize S.Mb cut=U at*;have w:=k.a;have p:=k.c o;have K:=(List.getElem?_eq_some_iff.1 A).1;split
 .rename_i C
  refine⟨x,w.enter o E g.2.2.1 cut,k.num,k.d,k.g,k.out,λ_=>⟨?_,?_,C,λu y a=>?_,λv b a=>?_,λv b u m a=>?_,λv b a c=>?_,⟨ϭ,λa=>absurd rfl a⟩,λa=>absurd a (Int.lt_irrefl 0),nofun,λa=>absurd a (Int.lt_irrefl 0),λq a=>?_,nofun,nofun,λs _=>?_,λv s a=>p.l v s ?_,λq _ s _=>?_,λs _ k c d=>?_⟩,λf a=>⟨(k.snt f a).1,(k.snt f a).2.1,λl=>?_⟩⟩;show (U.b+1).toNat<=_;omega;show m=X.a n (U.b+1);grind[Gh.a];have a:(U.i++[(⟨m,cut,U.Mm cut⟩:Lft)])[u]?=some y:=a;have z:=w.left.2 o;by_cases c:u<U.i.length;rw[List.getElem?_append_left c]at a;exact p.left u y a;rw[List.getElem?_append_right ω]at a;have q:u=U.b.toNat:=ν;subst q;rw[z,Nat.sub_self]at a;cases a;exact⟨A,G,λm a=>by rw[show (U.b.toNat:Int)=U.b by omega];exact p.ms m (jK a)⟩;have:=(p.vt v b a).1;exact⟨by show v<=U.b+1;omega,λe=>by have e:v=U.b+1:=e;omega⟩;have:=(p.an v b u m a).1;exact⟨by show v<=U.b+1;omega,λe=>by have e:v=U.b+1:=e;omega⟩;have:=(p.bl v b a c).1;exact⟨by show v<=U.b+1;omega,λe=>by have e:v=U.b+1:=e;omega⟩;have a:aV (fK U.k m) q=true:=a;rw[gn w.sus g.2.2.1,Bool.and_eq_true]at a;exact p.sus q a.1;show X.d (U.b+1) i s=((U.q.map λr=>List.replicate r.length (0:Int)).getD U.c []).getD s 0;rw[Oe];exact p.l _ _ ω;have a:U.b+1<v:=a;omega;show ((U.q.map λr=>List.replicate r.length (0:Int)).getD q []).getD s 0<=_;rw[Oe];exact x.c0 _ _ _;have d:k<=((U.q.map λr=>List.replicate r.length (0:Int)).getD U.c []).getD s 0:=d;grind;have:=((k.snt f a).2.2 l).1;exact⟨by show f.h<=U.b+1;omega,λe=>by have e:f.h=U.b+1:=e;omega⟩
 rename_i C
 refine⟨x,w.b0 o m cut,k.num,k.d,k.g,λ_=>?_,nofun,k.snt⟩;cases e:cr i with
 |true=>rfl
 |false=>exact absurd (g.2.2.2.1 i (by have:=w.num;grind[num,d]) e) C
def Gh.c(X:Gh)(m:Int):Gh:={X with D:=X.D++[m]}
def L1(X:Gh)(m:Int)(i:Nat):NB i X (X.c m):={NB.a i X with D:=⟨[m],rfl⟩}
def XI.a2(x:XI X cr n){Q:Int}(o:X.e v b m)(z:v.toNat=X.D.length)(y:Qm X n v Q)(p:∀q,aV Q q=true->X.h v q b):XI (X.c m) cr n:=by
 have e:∀{v:Int},v.toNat<=X.D.length->(X.c m).a n v=X.a n v:=(L1 X m 0).o;have l:∀{v b},X.f v b->0<=v/\v.toNat<=X.D.length:=λk=>⟨(x.f _ _ k).2.2.2.2.1,(x.f _ _ k).2.2.2.2.2.1⟩;refine {x with mb:=λv s a=>x.mb v s ?_,f:=λv b k=>?_,e:=λv b d k=>?_,g:=λu d k=>?_,a:=λv b d k=>?_}
 .by_cases c:v.toNat<=X.D.length
  grind
  unfold Gh.a;simp[show v.toNat≠0 by omega,show X.D.length<=v.toNat-1 by omega,aV]
 rw[e (l k).2,(by simp[Gh.c]:(X.c m).D.length=X.D.length+1)];have:=x.f v b k;grind;unfold Qm;rw[e (l (x.a v b d k).1).2];exact x.e v b d k
 .have k:(X.D++[m])[u]?=some d:=k;unfold Qm;by_cases w:u<X.D.length;rw[List.getElem?_append_left w]at k;rw[e ω];exact x.g u d k;have:u=X.D.length:=ν;subst this;have:m=d:=by simpa using k
  subst this;have:=(l (x.a v b m o).1).1;have t:(X.D.length:Int)=v:=ω;rw[t,e ω];exact⟨b,Q,o,y,p⟩
 rw[e (l (x.a v b d k).1).2];exact x.a v b d k
def LS.installIf(h:LS X cr n i S)(o:S.out=false)(U:S.b<2147483648)(H:S.d=some B)(N:B.e=false):Go X cr n i (S.installIf B):=by
 unfold PS.installIf;split
 .rename_i E
  have p:=h.c o;have b:=p.lead B H;obtain⟨L,Q,F⟩:=b.vote N;have K:=b.e;have z:=(p.vote.2 ω).2;have V:=h.a.view.1;have u:(S.b.toNat:Int)=S.b:=ω;unfold PS.Nj at E;rw[decide_eq_true_eq]at E;have O:Qm X n S.b B.d:=⟨by rwa [<-p.mem],by rwa [<-p.mem]⟩;have G:∀q,aV B.d q=true->X.h S.b q S.a.b:=λq k=>by grind
  obtain⟨l,I,A,R⟩:∃l,NB i X l/\LS l cr n i S/\l.D[S.b.toNat]?=some S.a.m:=by
   by_cases w:S.b.toNat<X.D.length
   obtain⟨m,k⟩:∃m,X.D[S.b.toNat]?=some m:=⟨_,List.getElem?_eq_getElem w⟩;have:=h.x.a3 k (by rwa [u]) (by rwa [u]) (by rwa [u]);grind[NB.a];have C:S.b.toNat=X.D.length:=by have:=p.a;omega
   exact⟨_,L1 X S.a.m i,h.a5 (L1 X S.a.m i) (h.x.a2 z C O G) (λ_ _=>rfl) (λ_ _=>.inl) (λ_ _ _ _=>.inl) (λ_ _ k _=>.inl k) λ_ _ _ _ _ k=>k,by grind[Gh.c]⟩
  obtain⟨k,s⟩:=df S;have t:LS l cr n i S.MF:=A.s _ λT q g⟨_,s⟩=>⟨.t rfl (A.to g rfl) (by rwa [s.a.a]) (by rwa [s.a.a]) λm a=>by rw[s.a.a];exact(A.c o).ms m (jK a),by grind[Ob,kb]⟩
  have y:=s.a;obtain⟨Y,M,P⟩:=t.install (y.out.trans o) (by rwa [y.a]) (by rw[<-h.d];exact h.a.vote.2.1 ω) (by rwa [y.a]);exact⟨Y,I.c M,P⟩
 grind[k]
def LS.o(h:LS X cr n i S)(o:S.out=false)(u:S.d=some B)(x:B.e=false):LS X cr n i (S.Mj B):=by have p:=h.c o;have b:=p.lead B u;have t:=(b.vote x).1;have y:=b.e;have z:=(p.vote.2 ω).2;refine h.s _ λT q g⟨k,s⟩=>?_;have l:=s.a.a;have w:=s.a.c;refine⟨⟨h.to g rfl,?_,λm a=>?_,ν,λ_ _=>?_,ν,ν,λ_=>⟨?_,?_⟩,ν,ν⟩,λ_=>⟨Int.le_of_eq l,λ_=>Int.le_of_eq b.num⟩⟩;show 0<=T.b/\T.b.toNat<=_;rw[l];exact⟨h.a.view.1,p.a⟩;show NC X n T.b m;rw[l];exact p.ms m (jK a);show X.f T.b B.g;rw[l,b.num];exact p.prom (by rwa [<-b.num]);grind;show B.g%8=S.c;grind[num,BI.h]
def LS.q(h:LS X cr n i S)(o:S.out=false)(t:S.d=some B):LS X cr n i (S.Mi B):=by have p:=h.c o;have b:=p.lead B t;refine h.s _ λT q g⟨k,s⟩=>?_;have l:=s.a.a;refine⟨⟨h.to g rfl,?_,nofun,ν,λ_ _=>?_,λ_=>b.out,ν,ν,ν,ν⟩,λ_=>⟨Int.le_of_eq l,λ_=>Int.le_of_eq b.num⟩⟩;rw[l];exact⟨h.a.view.1,p.a⟩;rw[l,b.num];exact p.prom (by grind[BI.num])
def LS.b1(h:LS X cr n i S)(o:S.out=false)(q:S.b<2147483648)(c:S.d=some B)(g:B.e=true):Go X cr n i (S.MA B):=by
 unfold PS.MA;split
 .rename_i a
  simp only[Bool.and_eq_true,decide_eq_true_eq]at a;refine(h.a4 o c g a.1 a.2).a λp _ l=>?_;have t:=l.o o rfl rfl;obtain⟨k,s⟩:=bo _ _;exact t.installIf (s.a.out.trans o) (by rwa [s.a.a]) s.a.f rfl
 grind[k]
abbrev ϥ:=Go.Proofs.Y.Codec.Msg
