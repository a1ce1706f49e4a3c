import Derived.Lib.Strings
import Derived.Test.YtoklolfaemhfnaaGreatDoorZan
set_option maxRecDepth 100000
set_option maxHeartbeats 0
set_option linter.defProp false
open Go.Proofs.Tryz
namespace Go.Proofs.Y
section
open Go.RowKit
variable {l:List UInt8}{w w':Δ}{rb:Nat}{a:Addr}
def kz(w:Δ)(rb:Nat)(l:List UInt8):Prop:=ε w rb 0 (.string ⟨l.toArray⟩)/\w.frozen? (aT rb 0)=false
def cI(w w':Δ)(rb:Nat)(l:List UInt8):Prop:=kz w' rb l/\w.grownBy w' (some rb)
def cI.h(h:kz w rb l):cI w w rb l:=⟨h,rfl,rfl,rfl,yb _,λ_ _ _=>rfl⟩
def cI.b{g f:Δ}{e:List UInt8}(h:cI w g rb l)(k:cI g f rb e):cI w f rb e:=
 ⟨k.1,k.2.os.trans h.2.os,k.2.tape.trans h.2.tape,k.2.output.trans h.2.output,yr h.2.size k.2.size,λb d c=>(k.2.block b (yg d h.2.size) c).trans (h.2.block b d c)⟩
def cI.c(h:cI w w' rb l):w.heap.size<=w':=h.2.size
def cI.e(h:cI w w' rb l){B:Nat}(b:B<=w)(c:B<=rb):Below B w w':=
 (yi B w).grown h.2 b (λk e=>by injection e with e;omega)
def kz.c(h:kz w rb l):rb<w:=yI w _ h.1
def kz.b(h:kz w rb l)(o:Obj):kz (w.alloc o) rb l:=by have b:=h.c;exact⟨(yq (yQ w o rb b)).trans h.1,(G4 (yQ w o rb b)).trans h.2⟩
def cI.d(h:cI w w' rb l)(o:Obj):cI w (w'.alloc o) rb l:=
 h.b ⟨h.1.b o,rfl,rfl,rfl,ς,λk b _=>yQ _ _ _ b⟩
def cI.f{g:Δ}{i:Option Nat}(h:cI w w' rb l)(d:w'.grownBy g i)(c:∀k,i=some k->w<=k/\k≠rb):cI w g rb l:=by have f:=d.block rb h.1.c λe=>(c rb e.symm).2 rfl;refine⟨⟨(yq f).trans h.1.1,(G4 f).trans h.1.2⟩,d.os.trans h.2.os,d.tape.trans h.2.tape,d.output.trans h.2.output,yr h.2.size d.size,λb f m=>?_⟩;exact(d.block b (yg f h.2.size) λe=>by have:=(c b e.symm).1;omega).trans (h.2.block b f m)
def tK(b:UInt8)(r:List UInt8):(⟨(b::r).toArray⟩:ByteArray).extract 1 (r.length+1)=⟨r.toArray⟩:=by apply ByteArray.ext;apply Array.ext';rw[Lib.extract_data];simp
def B9(b:UInt8)(r:List UInt8)(h:0<(⟨(b::r).toArray⟩:ByteArray).size):(⟨(b::r).toArray⟩:ByteArray)[0]'h=b:=rfl
def Cj(l:List UInt8)(d:Nat)(w:Δ)(h:kz w d l)(o:l.length<=140737488351232):ϖ 200 #[pT d 0] w λe j=>ϱ e (J (Codec.eW l).1)/\cI w j d (Codec.eW l).2:=by
 let⟨f,g⟩:=h;cases l with
 |nil=>
  go_enter func200,ntmps200;go_wp2;go_ret;exact⟨rfl,⟨f,g⟩,rfl,rfl,rfl,yb _,λ_ _ _=>rfl⟩
 |cons b r=>
  have i:=yI w _ f;have m:Hid (wrap64 (b.toNat:Int)=b.toNat):=by have:=b.toNat_lt;exact IntWalk.wrap64_in _ ⟨ω,ω⟩
  go_enter func200,ntmps200;go_wp2;go_ret;refine⟨dN (by rw[B9,m.out];rfl),?_⟩;rw[tK];refine⟨⟨World.cell?_setCell_same _ _ _ f,?_⟩,rfl,rfl,rfl,ς,λk n c=>?_⟩;simpa using g;exact yT _ _ _ _ λe=>c (congrArg some e)
def cT(l:List UInt8)(z:Int)(c:List UInt8)(b:Nat)(w:Δ)(f:Codec.eW l=(z,c))(h:kz w b l)(g:l.length<=140737488351232):ϖ 200 #[pT b 0] w λe d=>ϱ e (J z)/\cI w d b c:=by
 have:=Cj l b w h g;rw[f]at this;exact this
def aN(l:List UInt8):0<=(Codec.eW l).1/\(Codec.eW l).1<256/\(Codec.eW l).2.length<=l.length:=by
 cases l with
 |nil=>simp[Codec.eW]
 |cons b r=>have:=b.toNat_lt;simp[Codec.eW];omega
def nW:Nat->List UInt8->Int×List UInt8
 |0,l=>(0,l)
 |t+1,l=>((nW t l).1*256+(Codec.eW (nW t l).2).1,(Codec.eW (nW t l).2).2)
def zB(l:List UInt8):nW 4 l=Codec.ky l:=by simp[nW,Codec.ky]
def IN(a b:Nat)(e:a<4294967296)(d:b<256):bits .or .i64 (a:Int) (b:Int)=((a|||b:Nat):Int):=by have c:a|||b<2^32:=Nat.or_lt_two_pow ω ω;show IntKind.i64.wrap ((BitVec.ofInt 64 _|||BitVec.ofInt 64 b).toNat:Int)=_;rw[BitVec.toNat_or,BitVec.ofInt_natCast,BitVec.ofInt_natCast,BitVec.toNat_ofNat,BitVec.toNat_ofNat,Nat.mod_eq_of_lt ω,Nat.mod_eq_of_lt ω];simp[IntKind.wrap,IntKind.bits,IntKind.signed];omega
def Gz(y x:Int)(b:0<=y)(g:y<16777216)(d:0<=x)(f:x<256):bits .or .i64 (y*256) x=y*256+x:=by
 obtain⟨Y,rfl⟩:=Fi b;obtain⟨X,rfl⟩:=Fi d;have e:Y*256|||X=Y*256+X:=by have:=Nat.shiftLeft_add_eq_or_of_lt (show X<2^8 by omega) Y;rw[Nat.shiftLeft_eq]at this;exact this.symm
 have c:(Y*256)=((Y*256:Nat):Int):=ω;rw[c];refine(IN (Y*256) X ω ω).trans ?_;rw[e];omega
def Fe(l:List UInt8)(j:Nat)(w:Δ)(h:kz w j l)(G:l.length<=140737488351232):ϖ 201 #[pT j 0] w λe F=>ϱ e (J (Codec.ky l).1)/\cI w F j (Codec.ky l).2:=by
 have s:Hid _:=zB l;generalize Codec.ky l=r at s⊢;go_enter func201,ntmps201;go_wp2;go_loopw [3,4] (λx i I=>∃(t:Nat)(y:Int)(c:List UInt8),t<=4/\i=J t/\x=J y/\0<=y/\Hid (y<256^t)/\Hid (nW t l=(y,c))/\c.length<=140737488351232/\cI w I j c) λ_ i _=>4-(intOf i).toNat
 case atStart=>exact⟨0,0,l,ω,rfl,rfl,ω,by show 0<256^0;decide,rfl,G,cI.h h⟩
 case round=>
  obtain⟨t,y,c,M,rfl,rfl,n,B,q,p,d⟩:=hrel;have g:=aN c;by_cases D:t<4
  .have K:y<16777216:=by have E:t=0\/t=1\/t=2\/t=3:=ω;have:=B.out;rcases E with rfl|rfl|rfl|rfl<;>simp at this<;>omega
   obtain⟨z,m,b⟩:∃z m,Codec.eW c=(z,m):=⟨_,_,rfl⟩;have C:Hid (nW (t+1) l=(y*256+z,m)):=by show _=_;rw[nW,q.out,b]
   rw[b]at g;let⟨f,k,o⟩:=g;simp only at f k o;have v:Hid (y*256+z<256^(t+1)):=by show _<_;rw[Int.pow_succ];have:=B.out;omega
   have H:Hid (_=_):=Gz y z n K f k;have L:Hid (_=_):=b;go_wp2_with fail;refine(cT c z m j _ L d.1 p).m ?_;rintro N A;go_wp2;go_roundw
   case rel=>
    exact⟨t+1,_,m,ω,by go_num,by rw[H.out],ω,v,C,ω,d.b A⟩
   case measure=>simp[intOf];omega
  have u:t=4:=ω;subst u;go_wp2;go_ret;exact⟨dN (by rw[<-s.out,q.out]),by rw[<-s.out,q.out];exact d⟩
def Ck{m:Nat}{b:List UInt8}{z:Int}(h:Codec.eW l=(z,b)):Codec.gM (m+1) l=(z::(Codec.gM m b).1,(Codec.gM m b).2):=by rw[Codec.gM,h]
def wE(m:Nat):∀l:List UInt8,(Codec.gM m l).1.length=m:=by
 induction m with
 |zero=>intro l;rfl
 |succ m b=>intro l;simp[Codec.gM,b]
def Gy(w:Δ)(H:Nat)(c:w=H)(x:Int):∀j u,[Value.int .i64 x][j]?=some u->(w.alloc (.cells #[J x] 3)).cell? ((⟨H,0,none⟩:Addr).add j)=some u:=by
 subst c;intro j u b;match j,b with
 |0,b=>simp at b;subst b;simp[Addr.add]
def Gn(x:Int):∀u∈[Value.int .i64 x],u.oneCell'=true:=by intro u b;simp at b;subst b;rfl
def pY(l M:List UInt8)(K:Υ)(t:Nat)(w:Δ)(hz:Codec.mW l=(K,M))(h:kz w t l)(hl:l.length<=140737488351232):ϖ 202 #[pT t 0] w λe w'=>∃v,ϱ e v/\w'.ownsRow w 3 1 v K.length (ints K)/\cI w w' t M:=by
 let⟨i0,hi,O,T,N⟩:=info_parts KZ;obtain⟨n,r,L⟩:∃n r,Codec.eW l=(n,r):=⟨_,_,rfl⟩;have m:=aN l;rw[L]at m;let⟨s,Q,R⟩:=m;simp only at s Q R;have x:Codec.gM n.toNat r=(K,M):=by rw[<-hz,Codec.mW,L]
 obtain⟨n,rfl⟩:=Fi s;rw[CM]at x;have HZ:Hid (Codec.gM n r=(K,M)):=x;have HN:Hid (_=_):=L;have X:=h.c;go_enter func202,ntmps202;go_wp2_with fail;refine(cT l _ r t _ HN h hl).m ?_;rintro w1 E;have a2:=E.c;go_wp2;go_loopw [3,6] (λv i Y=>∃(k:Nat)(b:Υ)(q:List UInt8),k<=n/\i=J k/\b.length=k/\q.length<=140737488351232/\Hid (Codec.gM n r=(b++(Codec.gM (n-k) q).1,(Codec.gM (n-k) q).2))/\Y.ownsRow _ 3 1 v k (ints b)/\cI w Y t q) λ_ i _=>n-(intOf i).toNat
 case atStart=>exact⟨0,[],r,ω,rfl,rfl,ω,by show _=_;simp,y9 _ _ _ _,E⟩
 case round=>
  obtain⟨k,b,q,hk,rfl,c,V,HL,d,o⟩:=hrel;have a1:=o.c;by_cases a0:k<n
  .obtain⟨z,C,p⟩:∃z C,Codec.eW q=(z,C):=⟨_,_,rfl⟩;have m:=aN q;rw[p]at m;let⟨G,F,I⟩:=m;simp only at G F I;have HS:Hid (Codec.gM n r=((b++[z])++(Codec.gM (n-(k+1)) C).1,(Codec.gM (n-(k+1)) C).2)):=by show _=_;rw[HL.out,show n-k=(n-(k+1))+1 from ω,Ck p];simp
   have U:Hid (_=_):=p;have HV:Hid (∀k,u3.ownBlock=some k->w<=k/\k≠t):=λk hk=>by have:=(d.lt k hk).1;exact⟨this,ω⟩
   have j:Hid (_=_):=c;go_wp2_with fail;refine(cT q z C t _ U o.1 V).m ?_;rintro w2 A;have a3:=A.c;have y:w2.ownsRow w 3 1 u3 k (ints b):=d.kept A.2 (by rcases ho:u3.ownBlock with _|g;exact .inl rfl;right;intro e;injection e with e;exact(HV.out g ho).2 e)
   go_wp2_with (at_builtin;refine wpList_append_own _ rfl _ _ 69 rfl w 3 i0 (J 0) 1 8 underlying69 hi O T N rfl θ _ _ _ rfl (y.alloc _) (aT w2 0) 1 1 [J z] rfl rfl (Gy _ _ rfl _) (Gn _) ?c3 ?c4 ?c5 ?_)
   case c3=>unfold maxLen;omega
   case c4=>omega
   case c5=>simp;omega
   intro v' w3 f u _;rw[Cc]at f;go_wp2;go_roundw
   case rel=>exact⟨k+1,b++[z],C,ω,by go_num,by simp[j.out],ω,HS,f,(((o.b A).d (.cells #[J z] 3)).f u HV)⟩
   case measure=>simp[intOf];omega
  have S:k=n:=ω;subst S;have B:=HZ.out.symm.trans HL;rw[Nat.sub_self]at B;simp only[Codec.gM,IX,CN]at B;let⟨B,Z⟩:=B;have P:Hid (_=_):=B;have W:Hid (_=_):=Z;have j:Hid (_=_):=c;go_wp2;go_ret;exact⟨_,rfl,by rw[P.out,j.out];exact d,by rw[W.out];exact o⟩
