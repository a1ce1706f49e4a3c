import Derived.Test.YtoklolfaemhfnaaGreatDoorZad
import Derived.Test.YtoklolfaemhfnaaGreatDoorZam
set_option maxRecDepth 100000
set_option maxHeartbeats 0
set_option linter.defProp false
open Go.Proofs.Tryz
namespace Go.Proofs.Y
section
open Go.RowKit
abbrev ϥ:=Codec.Msg
def KZ:(prog.info? 3).map (λi=>(i.zero,i.size,i.bytes))=some (some (J 0),1,8):=κ
def Cc(l:Υ)(x:Int):ints l++[J x]=ints (l++[x]):=by simp[ints]
def EV{w:Δ}{a g n b:Nat}{l:Υ}(h:w.ownsRow a 3 1 (sT g n b) n (ints l))(d:l.length=n)(j:Nat)(c:j<n):w.cell? (aT g j)=some (J (l.getD j 0)):=by
 rw[h.cellAt j ω,ints,yZ,yh ω,yj,yh ω];rfl
variable {w w':Δ}{B B':Nat}{v:Θ}{l:Υ}
def aw(w:Δ)(B:Nat)(v:Θ)(l:Υ):Prop:=
 ((∃ao c,v=.slice ao 0 c)/\l=[])\/
 ∃b off cap,v=.slice (some ⟨b,off,none⟩) l.length cap/\b<B/\∀j,j<l.length->w.cell? ⟨b,off+j,none⟩=some (J (l.getD j 0))
def ba(w:Δ)(B:Nat)(v:Θ)(l:List ϥ):Prop:=
 ((∃ao c,v=.slice ao 0 c)/\l=[])\/
 ∃b off cap,v=.slice (some ⟨b,off,none⟩) l.length cap/\b<B/\∀j m,l[j]? =some m->
   ∃tv,w.cell? ⟨b,off+j*4,none⟩=some (J m.a)/\w.cell? ⟨b,off+j*4+1,none⟩=some (J m.seq)/\
     w.cell? ⟨b,off+j*4+2,none⟩=some tv/\w.cell? ⟨b,off+j*4+3,none⟩=some (.string m.b)/\aw w B tv m.c
def aw.a(h:aw w B v l)(f:Below B w w'):aw w' B v l:=by rcases h with ⟨d,k⟩|⟨b,c,a,d,e,i⟩;exact .inl ⟨d,k⟩;exact .inr ⟨b,c,a,d,e,λj g=>(f.cell e).trans (i j g)⟩
def aw.d(h:aw w B v l)(i:B<=B'):aw w B' v l:=by rcases h with ⟨d,f⟩|⟨b,c,a,d,g,e⟩;exact .inl ⟨d,f⟩;exact .inr ⟨b,c,a,d,ω,e⟩
def ba.a{l:List ϥ}(h:ba w B v l)(c:Below B w w'):ba w' B v l:=by
 rcases h with ⟨f,s⟩|⟨b,e,d,f,a,n⟩;exact .inl ⟨f,s⟩;refine .inr ⟨b,e,d,f,a,λj m k=>?_⟩
 let ⟨r,i,q,p,g,o⟩:=n j m k
 exact⟨r,(c.cell a).trans i,(c.cell a).trans q,(c.cell a).trans p,(c.cell a).trans g,o.a c⟩
def ba.d{l:List ϥ}(h:ba w B v l)(q:B<=B'):ba w B' v l:=by
 rcases h with ⟨d,r⟩|⟨b,c,a,d,s,i⟩;exact .inl ⟨d,r⟩;refine .inr ⟨b,c,a,d,ω,λj m g=>?_⟩
 let ⟨p,f,o,n,e,k⟩:=i j m g
 exact⟨p,f,o,n,e,k.d q⟩
def aw.b(h:aw w B v l):∃f n c,v=.slice f n c:=by rcases h with ⟨⟨_,_,a⟩,_⟩|⟨b,e,d,a,_⟩;exact⟨_,_,_,a⟩;exact⟨_,_,_,a⟩
def ba.b{l:List ϥ}(h:ba w B v l):∃f n c,v=.slice f n c:=by rcases h with ⟨⟨_,_,a⟩,_⟩|⟨b,e,d,a,_⟩;exact⟨_,_,_,a⟩;exact⟨_,_,_,a⟩
def cQ(n b a:Int)(w:Δ):ϖ 285 #[J n,J b,J a] w λe f=>ϱ e (.bool (Codec.iq n b a))/\f=w:=by
 by_cases d:b<=n
 .by_cases c:n<=a
  .have H:Hid _:=Codec.de.2 ⟨d,c⟩;go_enter func285,ntmps285;go_wp2;go_ret;exact⟨aB H.symm,rfl⟩
  have H:Hid (Codec.iq n b a=false):=by show _=_;simp[Codec.iq,c]
  go_enter func285,ntmps285;go_wp2;go_ret;exact⟨aB H.symm,rfl⟩
 have H:Hid (Codec.iq n b a=false):=by show _=_;simp[Codec.iq,d]
 go_enter func285,ntmps285;go_wp2;go_ret;exact⟨aB H.symm,rfl⟩
def DT(l:Υ)(k:Nat)(a:k<l.length):(l.take (k+1)).all (λn=>Codec.iq n 0 20)=((l.take k).all (λn=>Codec.iq n 0 20)&&Codec.iq (l.getD k 0) 0 20):=by rw[Lu a,List.all_append,yj,yh a];simp
def Ip(l:Υ)(k:Nat)(a:k<l.length)(h:Codec.iq (l.getD k 0) 0 20=false):l.all (λn=>Codec.iq n 0 20)=false:=by rw[List.all_eq_false];refine⟨_,?_,by rw[h];simp⟩;rw[yj,yh a];simp
def cy(v:Θ)(l:Υ)(B:Nat)(w:Δ)(h:aw w B v l):ϖ 248 #[v] w λe m=>ϱ e (.bool (Codec.aA l))/\m=w:=by
 rcases h with ⟨⟨y,z,rfl⟩,rfl⟩|⟨b,f,u,rfl,-,s⟩
 .go_enter func248,ntmps248;go_wp2;go_loop [10] (λi=>i=J 0) λ_=>0
  case atStart=>rfl
  case round=>
   subst hrel;go_wp2;go_ret;exact⟨rfl,rfl⟩
 by_cases q:l.length<=6
 .have t:Hid (∀j,j<l.length->w.cell? ⟨b,f+j,none⟩=some (J (l.getD j 0))):=s;clear s;go_enter func248,ntmps248;go_wp2;go_loop [10] (λi=>∃k:Nat,k<=l.length/\i=J k/\Hid ((l.take k).all (λn=>Codec.iq n 0 20)=true)) λi=>l.length-(intOf i).toNat
  case atStart=>exact⟨0,ω,rfl,rfl⟩
  case round=>
   obtain⟨k,A,rfl,r⟩:=hrel;by_cases a:k<l.length
   .have g:=t k a;have o:Hid (_=_):=DT l k a;have p:Hid (_->_):=Ip l k a;generalize l.getD k 0=x at g o p;cases c:Codec.iq x 0 20 with
    |true=>
     go_wp2_with (go_at_call 285;apply (cQ _ _ _ _).m;rintro m rfl);go_round
     case rel=>exact⟨k+1,ω,by go_num,by show _=_;rw[o,r,c];rfl⟩
     case measure=>simp[intOf];lia
    |false=>
     have d:Hid (Codec.aA l=false):=by show _=_;unfold Codec.aA;rw[p c];simp
     go_wp2_with (go_at_call 285;apply (cQ _ _ _ _).m;rintro m rfl);go_ret;exact⟨aB d.symm,rfl⟩
   have d:Hid (Codec.aA l=true):=by show _=_;have:=r;rw[yX ω]at this;unfold Codec.aA;rw[this];simp[q]
   go_wp2
   go_ret;exact⟨aB d.symm,rfl⟩
 have d:Hid (Codec.aA l=false):=by show _=_;simp[Codec.aA,q]
 go_enter func248,ntmps248;go_wp2;go_ret;exact⟨aB d.symm,rfl⟩
def aU(m:ϥ)(tv:Θ):Θ:=.agg #[J m.a,J m.seq,tv,.string m.b]
def nS(m:ϥ)(f:Θ)(B:Nat)(w:Δ)(h:aw w B f m.c)(q:B<=w):ϖ 286 #[.agg #[J m.a,J m.seq,f,.string m.b]] w λe c=>ϱ e (.bool (Codec.aK m))/\Ϟ w c:=by
 let ⟨a,b,l,x⟩:=m
 have k:Hid (∀o,aw (w.alloc o) B f l):=(λo=>h.a (Ϡ.alloc q o));simp only;have d:Hid (Codec.aK ⟨a,b,l,x⟩=(Codec.iq a 0 5&&Codec.iq b 1 20&&Codec.aA l&&decide (x.size<=16))):=rfl;generalize Codec.aK _=r at d|-;cases g:Codec.iq a 0 5
 .go_enter func286,ntmps286;go_wp2_with (go_at_call 285;apply (cQ _ _ _ _).m;rintro c rfl);go_ret;exact⟨aB (by rw[d,g];rfl),Ϡ.alloc Ϫ _⟩
 cases i:Codec.iq b 1 20
 .go_enter func286,ntmps286;go_wp2_with (go_at_call 285;apply (cQ _ _ _ _).m;rintro c rfl);go_ret;exact⟨aB (by rw[d,g,i];rfl),Ϡ.alloc Ϫ _⟩
 cases j:Codec.aA l
 .go_enter func286,ntmps286;go_wp2_with (first|(go_at_call 285;apply (cQ _ _ _ _).m;rintro c rfl)|(go_at_call 248;apply (cy f l B _ (k _)).m;rintro c rfl));go_ret;exact⟨aB (by rw[d,g,i,j];rfl),Ϡ.alloc Ϫ _⟩
 by_cases p:x.size<=16
 .go_enter func286,ntmps286;go_wp2_with (first|(go_at_call 285;apply (cQ _ _ _ _).m;rintro c rfl)|(go_at_call 248;apply (cy f l B _ (k _)).m;rintro c rfl));go_ret;exact⟨aB (by rw[d,g,i,j];simp[p];lia),Ϡ.alloc Ϫ _⟩
 go_enter func286,ntmps286;go_wp2_with (first|(go_at_call 285;apply (cQ _ _ _ _).m;rintro c rfl)|(go_at_call 248;apply (cy f l B _ (k _)).m;rintro c rfl));go_ret;exact⟨aB (by rw[d,g,i,j];simp[p];lia),Ϡ.alloc Ϫ _⟩
def Ch(l:List ϥ)(k:Nat)(m:ϥ)(b:l[k]?=some m):(l.take (k+1)).all Codec.aK=((l.take k).all Codec.aK&&Codec.aK m):=by
 let ⟨a,c⟩:=((ym.1 b))
 rw[Lu a,List.all_append,c];simp
def Gv(l:List ϥ)(k:Nat)(m:ϥ)(a:l[k]?=some m)(h:Codec.aK m=false):l.all Codec.aK=false:=by rw[List.all_eq_false];exact⟨m,yy a,by rw[h];simp⟩
def wv(v:Θ)(l:List ϥ)(B:Nat)(w:Δ)(h:ba w B v l)(K:B<=w):ϖ 249 #[v] w λe y=>ϱ e (.bool (Codec.cd l))/\Ϟ w y:=by
 rcases h with ⟨⟨R,x,rfl⟩,rfl⟩|⟨b,d,Q,rfl,N,G⟩
 .go_enter func249,ntmps249;go_wp2;go_loop [10] (λi=>i=J 0) λ_=>0
  case atStart=>rfl
  case round=>
   subst hrel;go_wp2;go_ret;exact⟨rfl,yi _ _⟩
 by_cases A:l.length<=200
 .have O:Hid (∀j m,l[j]?=some m->
   ∃z,w.cell? ⟨b,d+j*4,none⟩=some (J m.a)/\w.cell? ⟨b,d+j*4+1,none⟩=some (J m.seq)/\
   w.cell? ⟨b,d+j*4+2,none⟩=some z/\w.cell? ⟨b,d+j*4+3,none⟩=some (.string m.b)/\aw w B z m.c):=G
  go_enter func249,ntmps249;go_wp2;go_loopw [10] (λi wr=>∃k:Nat,k<=l.length/\i=J k/\Hid ((l.take k).all Codec.aK=true)/\Ϟ w wr) λi _=>l.length-(intOf i).toNat
  case atStart=>exact⟨0,ω,rfl,rfl,yi _ _⟩
  case round=>
   obtain⟨k,U,rfl,F,a⟩:=hrel;have P:=a.size;by_cases t:k<l.length
   .obtain⟨m,s⟩:∃m,l[k]?=some m:=⟨l[k],yh t⟩
    let ⟨z,x,E,I,C,u⟩:=O k m s
    obtain⟨r,n,c,rfl⟩:=u.b;have L:Hid (_=_):=Ch l k m s;have M:Hid (_->_):=Gv l k m s;have S:=(a.cell (by show b<_;lia)).trans x;have T:=(a.cell (by show b<_;lia)).trans E;have W:=(a.cell (by show b<_;lia)).trans I;have V:=(a.cell (by show b<_;lia)).trans C;have H:Hid (∀o,aw (wr.alloc o) B (.slice r n c) m.c):=λo=>u.a ((a.mono K).alloc ω o);cases p:Codec.aK m with
    |true=>
     go_wp2_with (go_at_call 286;apply (nS m _ B _ (H _) (by simp;lia)).m;rintro y g);go_roundw
     case rel=>
      exact⟨k+1,ω,by go_num,by show _=_;rw[L,F,p];rfl,((a.alloc ω (.cells #[J m.a,J m.seq,.slice r n c,.string m.b] 179)).trans (g.mono (by simp;lia)))⟩
     case measure=>simp[intOf];lia
    |false=>
     have q:Hid (Codec.cd l=false):=by show _=_;unfold Codec.cd;rw[M p];simp
     go_wp2_with (go_at_call 286;apply (nS m (.slice r n c) B _ (H _) (by simp;lia)).m;rintro y g);go_ret;exact⟨aB q.symm,((a.alloc ω (.cells #[J m.a,J m.seq,.slice r n c,.string m.b] 179)).trans (g.mono (by simp;lia)))⟩
   have q:Hid (Codec.cd l=true):=by show _=_;have:=F;rw[yX ω]at this;unfold Codec.cd;rw[this];simp[A]
   go_wp2
   go_ret;exact⟨aB q.symm,a⟩
 have q:Hid (Codec.cd l=false):=by show _=_;simp[Codec.cd,A]
 go_enter func249,ntmps249;go_wp2;go_ret;exact⟨aB q.symm,yi _ _⟩
def eu(f:Codec.Frame)(y s j:ϣ)(B n C l z i:Nat)(w:Δ):ϖ 246 #[.agg #[J f.c,J f.f,J f.j,J f.b,J f.h,J f.a,J f.e,.slice y B n,.slice s C l,.slice j z i]] w
  λe g=>ϱ e (.bool (Codec.dk f))/\Ϟ w g:=by
 let⟨k,a,b,m,v,u,t,d,c,x⟩:=f;simp only;have h:Hid (Codec.dk ⟨k,a,b,m,v,u,t,d,c,x⟩=(Codec.iq k 1 7&&Codec.iq a 0 5&&Codec.iq b 0 5&&Codec.iq m 0 63)):=rfl;generalize Codec.dk _=r at h|-;cases p:Codec.iq k 1 7<;>cases A:Codec.iq a 0 5<;>cases q:Codec.iq b 0 5<;>cases o:Codec.iq m 0 63;all_goals
  go_enter func246,ntmps246;go_wp2_with (go_at_call 285;apply (cQ _ _ _ _).mono;rintro e g⟨rfl,rfl⟩);go_ret;exact⟨aB (by rw[h,p,A,q,o];rfl),Ϡ.alloc Ϫ _⟩
def el(f:Codec.Frame)(x q j:ϣ)(A n B l y i:Nat)(w:Δ):ϖ 247 #[.agg #[J f.c,J f.f,J f.j,J f.b,J f.h,J f.a,J f.e,.slice x A n,.slice q B l,.slice j y i]] w
  λe g=>ϱ e (.bool (Codec.bS f))/\Ϟ w g:=by
 let⟨k,a,b,m,v,u,t,d,c,s⟩:=f;simp only;have h:Hid (Codec.bS ⟨k,a,b,m,v,u,t,d,c,s⟩=(Codec.iq v 0 2147483647&&Codec.iq u 0 2147483647&&Codec.iq t 0 2147483647)):=rfl;generalize Codec.bS _=r at h|-;cases o:Codec.iq v 0 2147483647<;>cases z:Codec.iq u 0 2147483647<;>cases p:Codec.iq t 0 _;all_goals
  go_enter func247,ntmps247;go_wp2_with (go_at_call 285;apply (cQ _ _ _ _).mono;rintro e g⟨rfl,rfl⟩);go_ret;exact⟨aB (by rw[h,o,z,p];rfl),Ϡ.alloc Ϫ _⟩
def kN(f:Codec.Frame)(E H I:Θ)(B:Nat)(w:Δ)(z:aw w B E f.g)(A:aw w B H f.i)(D:ba w B I f.d)(m:B<=w):ϖ 204 #[.agg #[J f.c,J f.f,J f.j,J f.b,J f.h,J f.a,J f.e,E,H,I]] w
  λe d=>ϱ e (.bool (Codec.dg f))/\Ϟ w d:=by
 obtain⟨Q,S,M,rfl⟩:=z.b;obtain⟨P,T,N,rfl⟩:=A.b;obtain⟨L,R,K,rfl⟩:=D.b;have C:Hid (∀d,Below B w d->aw d B (.slice Q S M) f.g):=λd s=>z.a s;have F:Hid (∀d,Below B w d->aw d B (.slice P T N) f.i):=λd s=>A.a s;have O:Hid (∀d,Below B w d->ba d B (.slice L R K) f.d):=λd s=>D.a s;clear z A D;have n:Hid (Codec.dg f=(Codec.dk f&&Codec.bS f&&Codec.aA f.g&&Codec.aA f.i&&Codec.cd f.d)):=rfl;generalize Codec.dg f=r at n|-;have g:∀o,Ϟ w (w.alloc o):=λo=>Ϡ.alloc Ϫ o;cases q:Codec.dk f
 .go_enter func204,ntmps204;go_wp2_with (go_at_call 246;apply (eu f _ _ _ _ _ _ _ _ _ _).mono;rintro e j⟨rfl,a⟩;let⟨h,i⟩:=kM a);go_ret;exact⟨aB (by rw[n,q];rfl),(g _).trans (a.mono ς)⟩
 cases u:Codec.bS f
 .go_enter func204,ntmps204;go_wp2_with (first|(go_at_call 246;apply (eu f _ _ _ _ _ _ _ _ _ _).mono;rintro e j⟨rfl,a⟩;let⟨h,i⟩:=kM a)|(go_at_call 247;apply (el f _ _ _ _ _ _ _ _ _ _).mono;rintro e v⟨rfl,b⟩;let⟨l,k⟩:=kM b));go_ret;exact⟨aB (by rw[n,q,u];rfl),((g _).trans (a.mono ς)).trans (b.mono (by have:=a.size;simp at this;lia))⟩
 cases y:Codec.aA f.g
 .go_enter func204,ntmps204;go_wp2_with (first|(go_at_call 246;apply (eu f _ _ _ _ _ _ _ _ _ _).mono;rintro e j⟨rfl,a⟩;let⟨h,i⟩:=kM a;have t:w.heap.size<j:=by (have:=a.size;simp at this;lia))|(go_at_call 247;apply (el f _ _ _ _ _ _ _ _ _ _).mono;rintro e v⟨rfl,b⟩;let⟨l,k⟩:=kM b;have p:=b.size;have c:=((g _).trans (a.mono ς)).trans (b.mono ω)));apply (cy _ f.g B _ (C _ (c.mono m))).mono;rintro e d⟨rfl,rfl⟩;go_wp2;go_ret;exact⟨aB (by rw[n,q,u,y];rfl),c⟩
 cases G:Codec.aA f.i
 .go_enter func204,ntmps204;go_wp2_with (first|(go_at_call 246;apply (eu f _ _ _ _ _ _ _ _ _ _).mono;rintro e j⟨rfl,a⟩;let⟨h,i⟩:=kM a;have t:w.heap.size<j:=by (have:=a.size;simp at this;lia))|(go_at_call 247;apply (el f _ _ _ _ _ _ _ _ _ _).mono;rintro e v⟨rfl,b⟩;let⟨l,k⟩:=kM b;have p:=b.size;have c:=((g _).trans (a.mono ς)).trans (b.mono ω)));apply (cy _ f.g B _ (C _ (c.mono m))).mono;rintro e d⟨rfl,rfl⟩;go_wp21;apply (cy _ f.i B _ (F _ (c.mono m))).mono;rintro e d⟨rfl,rfl⟩;go_wp2;go_ret;exact⟨aB (by rw[n,q,u,y,G];rfl),c⟩
 go_enter func204,ntmps204;go_wp2_with (first|(go_at_call 246;apply (eu f _ _ _ _ _ _ _ _ _ _).mono;rintro e j⟨rfl,a⟩;let⟨h,i⟩:=kM a;have t:w.heap.size<j:=by (have:=a.size;simp at this;lia))|(go_at_call 247;apply (el f _ _ _ _ _ _ _ _ _ _).mono;rintro e v⟨rfl,b⟩;let⟨l,k⟩:=kM b;have p:=b.size;have c:Ϟ w v:=((g _).trans (a.mono ς)).trans (b.mono ω)));apply (cy _ f.g B _ (C _ (c.mono m))).mono;rintro e d⟨rfl,rfl⟩;go_wp21;apply (cy _ f.i B _ (F _ (c.mono m))).mono;rintro e d⟨rfl,rfl⟩;go_wp21;apply (wv _ f.d B _ (O _ (c.mono m)) (ϕ c.size)).mono;rintro e U⟨rfl,x⟩;go_wp2;go_ret;exact⟨aB (by rw[n,q,u,y,G];simp),c.trans (x.mono (ϕ c.size))⟩
