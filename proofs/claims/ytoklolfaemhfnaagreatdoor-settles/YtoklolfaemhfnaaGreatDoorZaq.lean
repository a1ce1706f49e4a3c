import Derived.Lib.Strings
import Derived.Test.YtoklolfaemhfnaaGreatDoorZao
set_option maxRecDepth 100000
set_option maxHeartbeats 0
set_option linter.defProp false
open Go.Proofs.Tryz
namespace Go.Proofs.Y
section
open Go.RowKit
variable {l:Ϭ}{w w':Δ}{rb:Nat}{a:Addr}
def kz(w:Δ)(rb:Nat)(l:Ϭ):Prop:=ε w rb 0 (.string ⟨l.toArray⟩)/\w.frozen? (aT rb 0)=false
def cI(w w':Δ)(rb:Nat)(l:Ϭ):Prop:=kz w' rb l/\w.grownBy w' (some rb)
def cI.h(h:kz w rb l):cI w w rb l:=⟨h,rfl,rfl,rfl,Ϫ,λ_ _ _=>rfl⟩
def cI.b{g f:Δ}{e:Ϭ}(h:cI w g rb l)(k:cI g f rb e):cI w f rb e:=
 ⟨k.1,k.2.os.trans h.2.os,k.2.tape.trans h.2.tape,k.2.output.trans h.2.output,yr h.2.size k.2.size,λb d c=>(k.2.block b (yg d h.2.size) c).trans (h.2.block b d c)⟩
def cI.c(h:cI w w' rb l):w.heap.size<=w':=h.2.size
def cI.e(h:cI w w' rb l){B:Nat}(b:B<=w)(c:B<=rb):Below B w w':=
 (yi B w).grown h.2 b (λk e=>by injection e with e;lia)
def kz.c(h:kz w rb l):rb<w:=yI w _ h.1
def kz.b(h:kz w rb l)(o:Obj):kz (w.alloc o) rb l:=
 have b:=h.c
 ⟨(yq (yQ w o rb b)).trans h.1,(G4 (yQ w o rb b)).trans h.2⟩
def cI.d(h:cI w w' rb l)(o:Obj):cI w (w'.alloc o) rb l:=
 h.b ⟨h.1.b o,rfl,rfl,rfl,ς,λk b _=>yQ _ _ _ b⟩
def cI.f{g:Δ}{i:Option Nat}(h:cI w w' rb l)(d:w'.grownBy g i)(c:∀k,i=some k->w<=k/\k≠rb):cI w g rb l:=by have f:=d.block rb h.1.c λe=>(c rb e.symm).2 rfl;refine⟨⟨(yq f).trans h.1.1,(G4 f).trans h.1.2⟩,d.os.trans h.2.os,d.tape.trans h.2.tape,d.output.trans h.2.output,yr h.2.size d.size,λb f m=>?_⟩;exact(d.block b (yg f h.2.size) λe=>ϕ ((c b e.symm).1)).trans (h.2.block b f m)
def tK(b:UInt8)(r:Ϭ):(⟨(b::r).toArray⟩:ϝ).extract 1 (r.length+1)=⟨r.toArray⟩:=by apply ByteArray.ext;apply Array.ext';rw[Lib.extract_data];simp
def B9(b:UInt8)(r:Ϭ)(h:0<(⟨(b::r).toArray⟩:ϝ).size):(⟨(b::r).toArray⟩:ϝ)[0]'h=b:=rfl
def Cj(l:Ϭ)(d:Nat)(w:Δ)(h:kz w d l)(o:l.length<=140737488351232):ϖ 200 #[pT d 0] w λe j=>ϱ e (J (Codec.eW l).1)/\cI w j d (Codec.eW l).2:=by
 let ⟨f,g⟩:=h
 cases l with
 |nil=>
  go_enter func200,ntmps200;go_wp2;go_ret;exact⟨rfl,⟨f,g⟩,rfl,rfl,rfl,Ϫ,λ_ _ _=>rfl⟩
 |cons b r=>
  have i:=yI w _ f;have m:Hid (wrap64 (b.toNat:Int)=b.toNat):=
   have:=b.toNat_lt
   IntWalk.wrap64_in _ ⟨ω,ω⟩
  go_enter func200,ntmps200;go_wp2;go_ret;refine⟨dN (by rw[B9,m];rfl),?_⟩;rw[tK];refine⟨⟨World.cell?_setCell_same _ _ _ f,?_⟩,rfl,rfl,rfl,ς,λk n c=>?_⟩;simpa using g;exact yT _ _ _ _ λe=>c (congrArg some e)
def cT(l:Ϭ)(z:Int)(c:Ϭ)(b:Nat)(w:Δ)(f:Codec.eW l=(z,c))(h:kz w b l)(g:l.length<=140737488351232):ϖ 200 #[pT b 0] w λe d=>ϱ e (J z)/\cI w d b c:=by
 have:=Cj l b w h g;rwa [f]at this
def aN(l:Ϭ):0<=(Codec.eW l).1/\(Codec.eW l).1<256/\(Codec.eW l).2.length<=l.length:=by
 cases l with
 |nil=>simp[Codec.eW]
 |cons b r=>have:=b.toNat_lt;simp[Codec.eW];lia
def nW:Nat->Ϭ->Int×Ϭ
 |0,l=>(0,l)
 |t+1,l=>((nW t l).1*256+(Codec.eW (nW t l).2).1,(Codec.eW (nW t l).2).2)
def zB(l:Ϭ):nW 4 l=Codec.ky l:=by simp[nW,Codec.ky]
def IN(a b:Nat)(e:a<4294967296)(d:b<256):bits .or .i64 (a:Int) (b:Int)=((a|||b:Nat):Int):=by have c:a|||b<2^32:=Nat.or_lt_two_pow ω ω;show IntKind.i64.wrap ((BitVec.ofInt 64 _|||BitVec.ofInt 64 b).toNat:Int)=_;rw[BitVec.toNat_or,BitVec.ofInt_natCast,BitVec.ofInt_natCast,BitVec.toNat_ofNat,BitVec.toNat_ofNat,Nat.mod_eq_of_lt ω,Nat.mod_eq_of_lt ω];simp[IntKind.wrap,IntKind.bits,IntKind.signed];lia
def Gz(y x:Int)(b:0<=y)(g:y<16777216)(d:0<=x)(f:x<256):bits .or .i64 (y*256) x=y*256+x:=by
 obtain⟨Y,rfl⟩:=Fi b;obtain⟨X,rfl⟩:=Fi d;have e:Y*256|||X=Y*256+X:=by have:=Nat.shiftLeft_add_eq_or_of_lt (show X<2^8 by lia) Y;rw[Nat.shiftLeft_eq]at this;exact this.symm
 have c:(Y*256)=((Y*256:Nat):Int):=ω;rw[c];apply (IN (Y*256) X ω ω).trans;rw[e];lia
def Fe(l:Ϭ)(j:Nat)(w:Δ)(h:kz w j l)(G:l.length<=140737488351232):ϖ 201 #[pT j 0] w λe F=>ϱ e (J (Codec.ky l).1)/\cI w F j (Codec.ky l).2:=by
 have s:Hid _:=zB l;generalize Codec.ky l=r at s|-;go_enter func201,ntmps201;go_wp2;go_loopw [3,4] (λx i I=>∃(t:Nat)(y:Int)(c:Ϭ),t<=4/\i=J t/\x=J y/\0<=y/\Hid (y<256^t)/\Hid (nW t l=(y,c))/\c.length<=140737488351232/\cI w I j c) λ_ i _=>4-(intOf i).toNat
 case atStart=>exact⟨0,0,l,ω,rfl,rfl,ω,by show 0<256^0;decide,rfl,G,cI.h h⟩
 case round=>
  obtain⟨t,y,c,M,rfl,rfl,n,B,q,p,d⟩:=hrel;have g:=aN c;by_cases D:t<4
  .have K:y<16777216:=by have E:t=0\/t=1\/t=2\/t=3:=ω;have:=B.out;rcases E with rfl|rfl|rfl|rfl<;>simp at this<;>lia
   obtain⟨z,m,b⟩:∃z m,Codec.eW c=(z,m):=⟨_,_,rfl⟩;have C:Hid (nW (t+1) l=(y*256+z,m)):=by show _=_;rw[nW,q,b]
   rw[b]at g
   let ⟨f,k,o⟩:=g
   simp only at f k o;have v:Hid (y*256+z<256^(t+1)):=by show _<_;rw[Int.pow_succ];have:=B.out;lia
   have H:Hid (_=_):=Gz y z n K f k;have L:Hid (_=_):=b;go_wp21;apply (cT c z m j _ L d.1 p).m;rintro N A;go_wp2;go_roundw
   case rel=>
    exact⟨t+1,_,m,ω,by go_num,by rw[H],ω,v,C,ω,d.b A⟩
   case measure=>simp[intOf];lia
  have u:t=4:=ω;subst u;go_wp2;go_ret;exact⟨dN (by rw[<-s,q]),by rwa [<-s,q]⟩
def Ck{m:Nat}{b:Ϭ}{z:Int}(h:Codec.eW l=(z,b)):Codec.gM (m+1) l=(z::(Codec.gM m b).1,(Codec.gM m b).2):=by rw[Codec.gM,h]
def wE(m:Nat):∀l:Ϭ,(Codec.gM m l).1.length=m:=by
 induction m with
 |zero=>intro l;rfl
 |succ m b=>intro l;simp[Codec.gM,b]
def Gy(w:Δ)(H:Nat)(c:w=H)(x:Int):∀j u,[Value.int .i64 x][j]?=some u->(w.alloc (.cells #[J x] 3)).cell? ((⟨H,0,none⟩:Addr).add j)=some u:=by
 subst c;intro j u b;match j,b with
 |0,b=>simp at b;subst b;simp[Addr.add]
def Gn(x:Int):∀u∈[Value.int .i64 x],u.oneCell'=true:=by intro u b;simp at b;subst b;rfl
def pY(l M:Ϭ)(K:Υ)(t:Nat)(w:Δ)(hz:Codec.mW l=(K,M))(h:kz w t l)(hl:l.length<=140737488351232):ϖ 202 #[pT t 0] w λe w'=>∃v,ϱ e v/\w'.ownsRow w 3 1 v K.length (ints K)/\cI w w' t M:=by
 let ⟨i0,hi,O,T,N⟩:=info_parts KZ
 obtain⟨n,r,L⟩:∃n r,Codec.eW l=(n,r):=⟨_,_,rfl⟩;have m:=aN l;rw[L]at m
 let ⟨s,Q,R⟩:=m
 simp only at s Q R;have x:Codec.gM n.toNat r=(K,M):=by rw[<-hz,Codec.mW,L]
 obtain⟨n,rfl⟩:=Fi s;rw[CM]at x;have HZ:Hid (Codec.gM n r=(K,M)):=x;have HN:Hid (_=_):=L;have X:=h.c;go_enter func202,ntmps202;go_wp21;apply (cT l _ r t _ HN h hl).m;rintro w1 E;have a2:=E.c;go_wp2;go_loopw [3,6] (λv i Y=>∃(k:Nat)(b:Υ)(q:Ϭ),k<=n/\i=J k/\b.length=k/\q.length<=140737488351232/\Hid (Codec.gM n r=(b++(Codec.gM (n-k) q).1,(Codec.gM (n-k) q).2))/\Y.ownsRow _ 3 1 v k (ints b)/\cI w Y t q) λ_ i _=>n-(intOf i).toNat
 case atStart=>exact⟨0,[],r,ω,rfl,rfl,ω,by show _=_;simp,y9 _ _ _ _,E⟩
 case round=>
  obtain⟨k,b,q,hk,rfl,c,V,HL,d,o⟩:=hrel;have a1:=o.c;by_cases a0:k<n
  .obtain⟨z,C,p⟩:∃z C,Codec.eW q=(z,C):=⟨_,_,rfl⟩;have m:=aN q;rw[p]at m
   let ⟨G,F,I⟩:=m
   simp only at G F I;have HS:Hid (Codec.gM n r=((b++[z])++(Codec.gM (n-(k+1)) C).1,(Codec.gM (n-(k+1)) C).2)):=by show _=_;rw[HL,show n-k=(n-(k+1))+1 from ω,Ck p];simp
   have U:Hid (_=_):=p;have HV:Hid (∀k,u3.ownBlock=some k->w<=k/\k≠t):=λk hk=>have:=(d.lt k hk).1;⟨this,ω⟩;have j:Hid (_=_):=c;go_wp21;apply (cT q z C t _ U o.1 V).m;rintro w2 A;have a3:=A.c;have y:w2.ownsRow w 3 1 u3 k (ints b):=d.kept A.2 (by rcases ho:u3.ownBlock with _|g;exact .inl rfl;right;intro e;injection e with e;exact(HV g ho).2 e)
   go_wp2_with (at_builtin;apply wpList_append_own _ rfl _ _ 69 rfl w 3 i0 (J 0) 1 8 underlying69 hi O T N rfl θ _ _ _ rfl (y.alloc _) (aT w2 0) 1 1 [J z] rfl rfl (Gy _ _ rfl _) (Gn _) ?c3 ?c4 ?c5)
   case c3=>unfold maxLen;lia
   case c4=>lia
   case c5=>simp;lia
   intro v' w3 f u _;rw[Cc]at f;go_wp2;go_roundw
   case rel=>exact⟨k+1,b++[z],C,ω,by go_num,by simp[j.out],ω,HS,f,(((o.b A).d (.cells #[J z] 3)).f u HV)⟩
   case measure=>simp[intOf];lia
  have S:k=n:=ω;subst S;have B:=HZ.symm.trans HL;rw[Nat.sub_self]at B;simp only[Codec.gM,IX,CN]at B
  let ⟨B,Z⟩:=B
  have P:Hid (_=_):=B;have W:Hid (_=_):=Z;have j:Hid (_=_):=c;go_wp2;go_ret;exact⟨_,rfl,by rwa [P,j],by rwa [W]⟩
