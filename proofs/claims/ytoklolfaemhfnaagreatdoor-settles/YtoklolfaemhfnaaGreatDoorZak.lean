import Derived.Conc.CrowdRun
import Derived.Conc.Beside
import Derived.Test.YtoklolfaemhfnaaGreatDoorZaj
set_option maxRecDepth 100000
set_option maxHeartbeats 0
set_option linter.defProp false
namespace Go.Cr
section
open Go Go.Conc
open Go.ConcN (PermW fork_knows RelBy)
open Go.Pm (Rely Guar Ev grow Way)
variable {i g:Nat}{O':ϑ}{own' ro':Nat->ϑ}{y:MemOp}
inductive dD where
 |leaf
 |node (f:Δ->dD)
inductive dD.a:dD->dD->Prop
 |mk (f:Δ->dD) (w:Δ):dD.a (f w) (.node f)
theorem dD.b(T:dD):Acc dD.a T:=by
 induction T with
 |leaf=>exact .intro _ λy h=>nomatch h
 |node f a=>exact .intro _ λy h=>by cases h;exact a _
inductive nu:List dD->List dD->Prop
 |head {a b:dD}{l:List dD}:dD.a b a->nu (b::l) (a::l)
 |tail {a:dD}{l l':List dD}:nu l' l->nu (a::l') (a::l)
theorem nu.a:∀l,Acc nu l:=by
 intro l;induction l with
 |nil=>exact .intro _ λy h=>nomatch h
 |cons a l f=>
  have c:∀a,Acc dD.a a->∀l,Acc nu l->Acc nu (a::l):=by
   intro a j;induction j with
   |intro a _ d=>
    intro l e;induction e with
    |intro l e b=>
     refine .intro _ λy h=>?_;cases h with
     |head h=>exact d _ h _ (.intro _ e)
     |tail h=>exact b _ h
  grind[dD.b]
def nu.upd{f f':Nat->dD}:∀{a n:Nat},a<=i->i<a+n->dD.a (f' i) (f i)->(∀k,k≠i->f' k=f k)->nu ((List.range' a n).map f') ((List.range' a n).map f)
 |a,0,h,d,_,_=>ω
 |a,n+1,h,d,c,b=>by
   simp only[List.range'_succ,yN];by_cases e:a=i
   .subst e;have:(List.range' (a+1) n).map f'=(List.range' (a+1) n).map f:=by apply GU;intro k j;exact b k ν
    rw[this];exact .head c
   rw[b a e];exact .tail (nu.upd ω ω c b)
def kU(O:ϑ):Loc->Prop
 |.cell a=>O a.block
 |.obj b=>O b
 |_=>False
theorem kU.b{O:ϑ}{l:Loc}(h:kU O l):l.isMemory=true:=by cases l<;>first|rfl|exact h.elim
def kU.c{O:ϑ}(a:∀b,O b->O' b){l:Loc}(h:kU O l):kU O' l:=by cases l<;>first|exact a _ h|exact h.elim
theorem kU.a{O:ϑ}{l:Loc}(h:kU O l)(a:kU O' l):∃b,O b/\O' b:=by cases l<;>first|exact⟨_,h,a⟩|exact h.elim
def kU.cases{O am ap:ϑ}(a:∀b,O b->am b\/ap b){l:Loc}(h:kU O l):kU am l\/kU ap l:=by cases l<;>first|exact a _ h|exact h.elim
def AQ{B:Nat}{x:MemAct}(h:x.low B){a:Touch}(c:x.touch?=some a):kU (λb=>B<=b) a.loc->False:=by
 intro f;cases x with
 |access e=>
  injection c with c;subst c;let⟨d,k,j⟩:=e;cases d<;>first|exact f.elim|exact absurd h (xl.2 f)
 |mark m=>
  cases m<;>first|(injection c with c;subst c;exact absurd h (xl.2 f))|cases c
 |_=>cases c
def xt{B:Nat}{t:Trace}(h:∀e∈t,e.act.low B){a:Touch}(j:touchAt t i=some a)(f:kU (λb=>B<=b) a.loc):False:=
 let ⟨x,d,c⟩:=touch_of j
 AQ (h x (yaj d)) c f
structure Ht(W O K:ϑ)(j:Nat)(own ro:Nat->ϑ)(B:Nat):Prop where
 a:∀b,O b\/K b\/W b->b<B
 d:∀i,i<j->∀b,own i b\/ro i b->b<B
 ok:∀b,O b->¬K b
 f:∀b,W b->¬O b/\¬K b
 c:∀i,i<j->∀b,W b->¬own i b/\¬ro i b
 e:∀i,i<j->∀b,O b->¬own i b/\¬ro i b
 h:∀i,i<j->∀b,K b->¬own i b
 l:∀i k,i<j->k<j->i≠k->∀b,own i b->¬own k b
 m:∀i k,i<j->k<j->∀b,own i b->¬ro k b
def LY(g:Nat)(O K W:ϑ)(x:Touch):Prop:=
 x.loc.isMemory=false\/kU O x.loc\/(kU K x.loc/\x.write=false)\/(kU W x.loc/\(x.kind=.atomic\/(g=0/\x.kind=.said)))
def I6(g:Nat)(O K W:ϑ)(B:Nat)(u:Trace):Prop:=
 ∀op∈u,op.g=g/\(∀x,op.act.touch?=some x->LY g O K W x)/\op.act.low B/\∀a,op.act≠.mark (.release a)
structure TL(W O K:ϑ)(base j:Nat)(own ro:Nat->ϑ)(B:Nat)(t:Trace):Prop where
 c:∀said,¬Race said t
 f:∀op∈t,op.act.low B
 e:∀l,kU O l->Conc.Perm t 0 l
 n:∀l,kU K l->PermW t 0 l
 own:∀i,i<j->∀l,kU (own i) l->Conc.Perm t (i+1) l
 ro:∀i,i<j->∀l,kU (ro i) l->PermW t (i+1) l
 o:∀i a,touchAt t i=some a->kU W a.loc->a.kind≠.atomic->Knows t 0 i
 x:∀k,base<=k->k<j->∀i a,touchAt t i=some a->kU W a.loc->a.kind=.plain->Knows t (k+1) i
 m:∀i a,touchAt t i=some a->a.loc.isMemory=true->Knows t 0 i\/(a.kind=.atomic/\kU W a.loc)\/(∃k,base<=k/\k<j/\t.g? i=some (k+1))
 h:∀i g,t.g? i=some g->g≠0->t.counts i->(∃q,t.g? q=some 0/\HappensBefore t i q)\/(∃k,base<=k/\k<j/\g=k+1)
 b:∀k,j<k->Deaf t k=0
 d:∀op∈t,∀a,op.act≠.mark (.release a)
theorem bk{t u:Trace}{a:Touch}(h:touchAt (t++u) i=some a):touchAt t i=some a\/(∃d∈u,d.act.touch?=some a/\(t++u)[i]?=some d):=by let⟨x,e,c⟩:=touch_of h;grind[touchAt_of]
def fV{t u:Trace}(h:t.g? i=some g):(t++u).g? i=some g:=by let⟨z,a,_⟩:=yE.1 h;grind[g?_old]
section
variable {W O K:ϑ}{base j:Nat}{own ro:Nat->ϑ}{B B':Nat}{t u:Trace}
def oN{r:ϑ}{f:Bool}(z:¬Race f t)(q:I6 g O' r W B' u)(x:∀l,kU O' l->Conc.Perm t g l)(A:∀l,kU r l->PermW t g l)(D:∀i a,touchAt t i=some a->kU W a.loc->a.kind=.plain->Knows t g i)(w:g=0->∀i a,touchAt t i=some a->kU W a.loc->a.kind≠.atomic->Knows t 0 i):¬Race f (t++u):=by
 refine noRace_append z (λp m=>(q p m).1) λi a o p m b C k=>?_;let⟨e,E,s,d⟩:=k;rcases (q p m).2.1 b C with h|h|⟨h,v⟩|⟨h,c⟩;grind;exact x _ h i a o e;exact A _ h i a o e (s.resolve_right (by simp[v]));grind
def uo(d:∀c∈t,c.act.low B){l:Loc}(f:kU (λb=>B<=b) l):Conc.Perm t g l:=λi a h e=>(xt d h (by rwa [e])).elim
def TL.s(S:Ht W O K j own ro B)(h:TL W O K base j own ro B t)(Q:B<=B')(P:∀b,O' b->O b\/B<=b)(v:I6 0 O' K W B' u):TL W O' K base j own ro B' (t++u):=by
 have H:=λl p=>(kU.cases P p).elim (h.e l) (uo h.f);have s:∀(Z:ϑ),(∀b,Z b->b<B)->(∀b,O b->¬Z b)->(∀b,W b->¬Z b)->∀l,kU Z l->∀f∈u,∀b:Touch,f.act.touch?=some b->b.loc=l->(kU K l/\b.write=false):=by
  intro Z hZ R a0 l p f d b n e;rcases (v f d).2.1 b n with m|m|⟨m,hr⟩|⟨m,_⟩;grind[kU.b];grind[kU.a]
  grind
  grind[kU.a]
 refine⟨λG=>oN (h.c G) v H h.n (λi a r A hp=>h.o i a r A ν) λ_=>h.o,
  seen_app (λf d=>MemAct.low_mono Q (h.f f d)) λf d=>(v f d).2.2.1,
  λl p=>(H l p).app λf d _ _ _=>(v f d).1,λl p=>(h.n l p).app λf d _ _ _ _=>(v f d).1,λi o l p=>(h.own i o l p).app λf d b n e=>?_,λi o l p=>(h.ro i o l p).app λf d b n e hw=>?_,
  λi a r A F=>?_,λk L M i a r A F=>?_,λi a r Y=>?_,λi g hg E V=>?_,λk F=>?_,λf d a=>?_⟩
 .exfalso
  have:=s _ (λb n=>S.d i o b (.inl n)) (λb n=>(S.e i o b n).1) (λb n=>(S.c i o b n).1) l p f d b n e;let⟨c,C,w⟩:=kU.a p this.1;exact S.h i o c w C
 have:=s _ (λb n=>S.d i o b (.inr n)) (λb n=>(S.e i o b n).2) (λb n=>(S.c i o b n).2) l p f d b n e;grind;rcases bk r with r|⟨f,d,D,o⟩;exact(h.o i a r A F).app u;have:=knows_own o;rwa [(v f d).1]at this
 .rcases bk r with r|⟨f,d,D,o⟩;exact(h.x k L M i a r A F).app u;exfalso;rcases (v f d).2.1 a D with m|m|⟨m,_⟩|⟨_,m⟩;grind[kU.b];let⟨c,C,w⟩:=kU.a A m;rcases P c w with w|w;exact(S.f c C).1 w;exact absurd (S.a c (.inr (.inr C))) (xl.2 w);let⟨c,C,w⟩:=kU.a A m;exact(S.f c C).2 w;grind
 rcases bk r with r|⟨f,d,D,o⟩;exact(h.m i a r Y).imp (·.app u) (Or.imp id λ⟨k,L,M,T⟩=>⟨k,L,M,fV T⟩);have:=knows_own o;rw[(v f d).1]at this;grind;obtain⟨z,hz,rfl⟩:=yE.1 hg;rcases getElem?_append_cases hz with ⟨o,N⟩|⟨_,I⟩;exact(h.h i z.g (by simp[Trace.g?,N]) E ((counts_old o).1 V)).imp (λ⟨q,U,X⟩=>⟨q,fV U,hb_app u X⟩) id;exact absurd (v z I).1 E;rw[Deaf_other t ω u λf d=>(v f d).1];exact h.b k F;exact(Kx.1 d).elim (λx=>h.d f x a) λx=>(v f x).2.2.2 a
def TL.r(S:Ht W O K j own ro B)(h:TL W O K base j own ro B t)(f:base<=i)(v:i<j)(U:B<=B')(Q:∀b,own' i b->own i b\/B<=b)(F:∀k,k≠i->own' k=own k)(C:I6 (i+1) (own' i) (ro i) W B' u):TL W O K base j own' ro B' (t++u):=by
 have I:=λl o=>(kU.cases Q o).elim (h.own i v l) (uo h.f);have r:∀(Z:ϑ),(∀b,Z b->b<B)->(∀b,own i b->¬Z b)->(∀b,W b->¬Z b)->∀l,kU Z l->∀m∈u,∀b:Touch,m.act.touch?=some b->b.loc=l->(kU (ro i) l/\b.write=false):=by
  intro Z hZ V a0 l o m d b f e;rcases (C m d).2.1 b f with n|n|⟨n,hr⟩|⟨n,_⟩;grind[kU.b];grind[kU.a]
  grind
  grind[kU.a]
 refine⟨λH=>oN (h.c H) C I (h.ro i v) (h.x i f v) λe=>ω,
  seen_app (λm d=>MemAct.low_mono U (h.f m d)) λm d=>(C m d).2.2.1,
  λl o=>(h.e l o).app λm d b f e=>?_,λl o=>(h.n l o).app λm d b f e T=>?_,λk s l o=>?_,λk s l o=>(h.ro k s l o).app λm d b f e T=>?_,
  λx a A D s=>?_,λk M N x a A D s=>?_,λx a A hm=>?_,λx g hg F hc=>?_,λk s=>?_,λm d a=>?_⟩
 .exfalso
  have:=r O (λb f=>S.a b (.inl f)) (λb f G=>(S.e i v b G).1 f) (λb f=>(S.f b f).1) l o m d b f e;let⟨c,w,p⟩:=kU.a o this.1;exact(S.e i v c w).2 p
 have:=r K (λb f=>S.a b (.inr (.inl f))) (λb f G=>S.h i v b G f) (λb f=>(S.f b f).2) l o m d b f e;grind
 .by_cases e:k=i
  subst e;exact(I l o).app λm d _ _ _=>(C m d).1;rw[F k e]at o;refine(h.own k s l o).app λm d b f e'=>?_;exfalso;have:=r _ (λb f=>S.d k s b (.inl f)) (λb f G=>S.l i k v s (Ne.symm e) b f G) (λb f=>(S.c k s b f).1) l o m d b f e';let⟨c,w,p⟩:=kU.a o this.1;exact S.m k i s v c w p
 .exfalso
  have:=r _ (λb f=>S.d k s b (.inr f)) (λb f G=>S.m i k v s b f G) (λb f=>(S.c k s b f).2) l o m d b f e;grind
 .rcases bk A with A|⟨m,d,E,_⟩;exact(h.o x a A D s).app u;exfalso;rcases (C m d).2.1 a E with n|n|⟨n,_⟩|⟨_,n⟩;grind[kU.b];let⟨c,w,p⟩:=kU.a D n;rcases Q c p with p|p;exact(S.c i v c w).1 p;exact absurd (S.a c (.inr (.inr w))) (xl.2 p);let⟨c,w,p⟩:=kU.a D n;exact(S.c i v c w).2 p;grind
 .rcases bk A with A|⟨m,d,E,_⟩;exact(h.x k M N x a A D s).app u;exfalso;rcases (C m d).2.1 a E with n|n|⟨n,_⟩|⟨_,n⟩;grind[kU.b];let⟨c,w,p⟩:=kU.a D n;rcases Q c p with p|p;exact(S.c i v c w).1 p;exact absurd (S.a c (.inr (.inr w))) (xl.2 p);let⟨c,w,p⟩:=kU.a D n;exact(S.c i v c w).2 p;grind
 rcases bk A with A|⟨m,d,E,n⟩;exact(h.m x a A hm).imp (·.app u) (Or.imp id λ⟨k,M,N,X⟩=>⟨k,M,N,fV X⟩);exact .inr (.inr ⟨i,f,v,by simp[Trace.g?,n,(C m d).1]⟩);obtain⟨z,hz,rfl⟩:=yE.1 hg;rcases getElem?_append_cases hz with ⟨R,P⟩|⟨_,L⟩;exact(h.h x z.g (by simp[Trace.g?,P]) F ((counts_old R).1 hc)).imp (λ⟨q,Y,q2⟩=>⟨q,fV Y,hb_app u q2⟩) id;exact .inr ⟨i,f,v,(C z L).1⟩;rw[Deaf_other t (g':=i+1) ω u λm d=>(C m d).1];exact h.b k s;exact(Kx.1 d).elim (λx=>h.d m x a) λx=>(C m x).2.2.2 a
def TL.w(h:TL W O K base j own ro B t)(T:g<=j)(v:∀d∈u,d.g=g/\d.act.touch?=none/\d.act.low B/\∀a,d.act≠.mark (.release a)):TL W O K base j own ro B (t++u):=by
 have o:∀d∈u,∀b:Touch,d.act.touch?=some b->False:=λd c b f=>ν;refine⟨λs=>noRace_append (h.c s) (λd c=>(v d c).1) λi a _ d c b f _=>(o d c b f).elim,(by grind[f]),
  λl n=>(h.e l n).app λd c b f _=>(o d c b f).elim,λl n=>(h.n l n).app λd c b f _ _=>(o d c b f).elim,λi p l n=>(h.own i p l n).app λd c b f _=>(o d c b f).elim,λi p l n=>(h.ro i p l n).app λd c b f _ _=>(o d c b f).elim,
  λi a e A r=>?_,λk F w i a e A r=>?_,λi a e R=>?_,λi U E C G=>?_,λk r=>?_,λd c a=>?_⟩
 rcases bk e with e|⟨d,c,m,_⟩;exact(h.o i a e A r).app u;grind;rcases bk e with e|⟨d,c,m,_⟩;exact(h.x k F w i a e A r).app u;grind;rcases bk e with e|⟨d,c,m,_⟩;exact(h.m i a e R).imp (·.app u) (Or.imp id λ⟨k,F,w,L⟩=>⟨k,F,w,fV L⟩);grind;obtain⟨z,H,rfl⟩:=yE.1 E;rcases getElem?_append_cases H with ⟨p,D⟩|⟨_,M⟩;exact(h.h i z.g (by simp[Trace.g?,D]) C ((counts_old p).1 G)).imp (λ⟨q,P,Q⟩=>⟨q,fV P,hb_app u Q⟩) id;let⟨x,N,_⟩:=G;grind[touch_of];rw[Deaf_other t ω u λd c=>(v d c).1];exact h.b k r;exact(Kx.1 c).elim (λx=>h.d d x a) λx=>(v d x).2.2.2 a
def TL.v{E R:ϑ}(h:TL W O K base j own ro B t)(a1:base<=j){x:MemOp}(H:x.g=0/\x.act=.go (j+1))(I:y.g=j+1/\y.act=.start)(h0:Deaf t 0=0)(X:∀b,E b->O b)(T:∀b,R b->O b\/K b)(Y:own' j=E)(e2:ro' j=R)(e3:∀k,k≠j->own' k=own k)(e4:∀k,k≠j->ro' k=ro k):TL W (λb=>O b/\¬E b/\¬R b) (λb=>K b\/R b) base (j+1) own' ro' B (t++#[x,y]):=by
 have p:∀d∈#[x,y],d=x\/d=y:=by intro d c;simpa using c
 have r:∀d∈#[x,y],∀b:Touch,d.act.touch?=some b->False:=by intro d c b m;rcases p d c with rfl|rfl;rw[H.2]at m;cases m;rw[I.2]at m;cases m
 have n:∀{i:Nat}{a:Touch},touchAt (t++#[x,y]) i=some a->touchAt t i=some a:=λo=>(by grind[bk]);have Q:∀{i:Nat},Knows t 0 i->Knows (t++#[x,y]) (j+1) i:=λv=>fork_knows H I h0 (h.b _ ω) v;refine⟨λw=>?_,seen_app h.f λd c=>?_,λl f=>(h.e l (f.c λb m=>m.1)).app λd c b m _=>(r d c b m).elim,λl f=>?_,λi v l f=>?_,λi v l f=>?_,
  λi a o A D=>(h.o i a (n o) A D).app _,λk s U i a o A D=>?_,λi a o hm=>?_,λi g hg N S=>?_,λk D=>?_,λd c a=>?_⟩
 .rw[(by grind:t++#[x,y]=(t++#[x])++#[y])];refine noRace_append (g:=j+1) (noRace_append (g:=0) (h.c w) (λd c=>ν) λi a _ d c b m _=>(r d ν b m).elim)
   (λd c=>ν) λi a _ d c b m _=>(r d ν b m).elim
 rcases p d c with rfl|rfl;rw[H.2];trivial;rw[I.2];trivial
 .have:PermW t 0 l:=by rcases kU.cases (λb m=>m) f with f|f;exact h.n l f;rcases kU.cases T f with f|f;exact .of (h.e l f);exact h.n l f
  exact this.app λd c b m _ _=>(r d c b m).elim
 .by_cases e:i=j
  subst e;rw[Y]at f;exact λq a o C=>Q (h.e l (f.c X) q a (n o) C);rw[e3 i e]at f;exact(h.own i ω l f).app λd c b m _=>(r d c b m).elim
 .by_cases e:i=j
  subst e;rw[e2]at f;exact λq a o C V=>Q ((kU.cases T f).elim (λf=>h.e l f q a (n o) C) λf=>h.n l f q a (n o) C V);rw[e4 i e]at f;exact(h.ro i ω l f).app λd c b m _ _=>(r d c b m).elim
 .by_cases e:k=j
  subst e;exact Q (h.o i a (n o) A ν);exact(h.x k s ω i a (n o) A D).app _
 exact(h.m i a (n o) hm).imp (·.app _) (Or.imp id λ⟨k,s,U,F⟩=>⟨k,s,ω,fV F⟩);obtain⟨z,hz,rfl⟩:=yE.1 hg;rcases getElem?_append_cases hz with ⟨v,P⟩|⟨_,a0⟩;exact(h.h i z.g (by simp[Trace.g?,P]) N ((counts_old v).1 S)).imp (λ⟨q,q1,q2⟩=>⟨q,fV q1,hb_app _ q2⟩) λ⟨k,s,U,F⟩=>⟨k,s,ω,F⟩;let⟨x',G,_⟩:=S;grind[touch_of];rw[(by grind:t++#[x,y]=(t++#[x])++#[y]),Deaf_other (t++#[x]) (g':=j+1) ω #[y] λd c=>ν,Deaf_other t (g':=0) ω #[x] λd c=>ν];exact h.b k ω;rcases Kx.1 c with c|c;exact h.d d c a;grind
structure sk(a:Addr)(W:ϑ)(t:Trace)(k r:Nat):Prop where
 d:RelBy a t k r
 c:∀i x,r<i->t.g? i=some k->touchAt t i=some x->x.kind=.atomic/\kU W x.loc
def TL.p{a:Addr}(h:TL W O K base j own ro B t)(P:∀k,base<=k->k<j->∃r,sk a W t (k+1) r)(h0:Deaf t 0=0)(I:y.g=0/\y.act=.mark (.acquire a))(N:a.block<B)(hO:∀b,O' b->¬W b)(e1:∀i b,¬own' i b)(e2:∀i b,¬ro' i b):TL W O' K j j own' ro' B (t++#[y]):=by
 have D:∀f∈#[y],f=y:=by intro f d;simpa using d
 have T:∀f∈#[y],∀b:Touch,f.act.touch?=some b->False:=by intro f d b w;rw[D f d,I.2]at w;cases w
 have F:∀{i:Nat}{a:Touch},touchAt (t++#[y]) i=some a->touchAt t i=some a:=λN=>(by grind[bk]);have L:(t++#[y])[t.size]?=some y:=by rw[Array.getElem?_append_right Ϫ];simp
 have R:∀k,base<=k->k<j->∃r,sk a W t (k+1) r/\HappensBefore (t++#[y]) r t.size:=by intro k A C;let⟨r,o⟩:=P k A C;have H:=lt_of_act? o.d.act;refine⟨r,o,.single (.inr ⟨.marked H (.inr (act?_old H▸o.d.act)) (by grind[act?_of]) λi _ p e=>?_,(heard_old H).2 o.d.heard,⟨0,by simp[Trace.g?,I.1],by rwa [deaf_old Ϫ]⟩⟩)⟩;rw[act?_old p]at e;let⟨f,ho,G⟩:=yE.1 e;exact h.d f (yaj ho) a G
 have w:∀k,base<=k->k<j->∀i,t.g? i=some (k+1)->HappensBefore (t++#[y]) i t.size\/∃r,sk a W t (k+1) r/\r<i:=by intro k A C i p;let⟨r,o,he⟩:=R k A C;rcases Ks i r with n|rfl|a1;exact .inl (.trans (.single (.inl ⟨n,_,fV p,fV o.d.g⟩)) he);grind;grind
 have a2:∀i,HappensBefore (t++#[y]) i t.size->Knows (t++#[y]) 0 i:=λi p=>⟨_,y,L,I.1,.inr p⟩;have E:∀i x,touchAt (t++#[y]) i=some x->x.loc.isMemory=true->Knows (t++#[y]) 0 i\/(x.kind=.atomic/\kU W x.loc):=by intro i x M Y;rcases h.m i x (F M) Y with m|m|⟨k,A,C,S⟩;exact .inl (m.app _);grind;rcases w k A C i S with m|⟨r,o,n⟩;grind;exact .inr (o.c i x n S (F M))
 refine⟨λQ=>noRace_append (g:=0) (h.c Q) (λf d=>ν) λi a _ f d b w _=>(T f d b w).elim,seen_app h.f (λf d=>by rwa [D f d,I.2]),
  λl s i x M Z=>?_,λl s=>(h.n l s).app λf d b w _ _=>(T f d b w).elim,λi p l s=>?_,λi p l s=>?_,
  λi a N hW m=>(h.o i a (F N) hW m).app _,λk A C=>ω,λi x M Y=>ν,λi g hg U X=>?_,λk m=>?_,λf d a=>?_⟩
 grind[kU.b,kU.a]
 .exfalso;cases l<;>first|exact s.elim|exact e1 i _ s
 .exfalso;cases l<;>first|exact s.elim|exact e2 i _ s
 .obtain⟨z,hz,rfl⟩:=yE.1 hg;rcases getElem?_append_cases hz with ⟨p,V⟩|⟨_,a0⟩
  .have v:t.g? i=some z.g:=by simp[Trace.g?,V]
   rcases h.h i z.g v U ((counts_old p).1 X)with ⟨q,q1,q2⟩|⟨k,A,C,S⟩;exact .inl ⟨q,fV q1,hb_app _ q2⟩;rw[S]at v;rcases w k A C i v with m|⟨r,o,n⟩;exact .inl ⟨t.size,by simp[Trace.g?,I.1],m⟩;exact absurd ((counts_old p).1 X) (o.d.after i n v)
  grind
 rw[Deaf_other t (g':=0) ω #[y] λf d=>ν];exact h.b k m;rcases Kx.1 d with d|d;exact h.d f d a;grind
def TL.enter{f:Nat}(h:TL W O K j j own ro B t)(m:O f):TL (λb=>W b\/b=f) (λb=>O b/\b≠f) K j j own ro B t:=by refine {h with e:=λl d=>h.e l (d.c λb c=>c.1),o:=λi a e d n=>?_,x:=λk q p=>ω,m:=λi a e o=>(h.m i a e o).imp id (Or.imp (λ⟨x,y⟩=>⟨x,y.c λb c=>.inl c⟩) id)};rcases kU.cases (λb c=>c) d with d|d;exact h.o i a e d n;exact h.e _ (d.c λb c=>c▸m) i a e rfl
end
open Go.ConcN (WgLive sumTo upd upd_same upd_ne sumTo_upd sumTo_upd_out sumTo_congr get_map_set get_map_set_same)
open Go.ConcR (KK wgBlock WgAt stA smA rd wr mk Bk g_of_ofEvents ofEvent_loc_mark ofEvent_cell ofEvent_mk loc_of_ofEvent)
variable {j s d B:Nat}{es:Array Event}{fn:FuncId}
abbrev bE:=(ϑ)->Ξ
def oK:Ϥ:=λ_=>False
inductive Wk(P:ϛ)(ty:ϟ)(Wg:Nat)(Q:bE)(K:ϑ):dD->Nat->Nat->(ϑ)->Ϛ->Ξ
 |idle {f:Δ->dD}{s d:Nat}{O:ϑ}{g:Ϛ}{w:Δ} (hs:(s=7/\d=0)\/(s=6/\d=0)\/(2<=s/\s<=5/\d=1)) (hrun:g.status=.running)
  (hgo:∀wL,Rely O K (WgLive ty Wg) w wL->∃g' w' es,stepG P false g wL=.go g' w' es/\Guar O K oK wL w' es/\(s≠7->w'=wL/\es=#[]))
  (h:∀wL g' w' es,Rely O K (WgLive ty Wg) w wL->stepG P false g wL=.go g' w' es->Wk P ty Wg Q K (f wL) s d (grow O wL w') g' w'):Wk P ty Wg Q K (.node f) s d O g w
 |rel {f:Δ->dD}{O:ϑ}{g:Ϛ}{w:Δ} (hrun:g.status=.running) (hQ:∀wL,Rely O K (WgLive ty Wg) w wL->Q O wL)
  (hgo:∀wL,Rely O K (WgLive ty Wg) w wL->∃g',stepG P false g wL=.go g' wL #[mk (.releaseMerge (stA Wg))])
  (h:∀wL g' w' es,Rely O K (WgLive ty Wg) w wL->stepG P false g wL=.go g' w' es->Wk P ty Wg Q K (f wL) 6 0 O g' w'):Wk P ty Wg Q K (.node f) 7 0 O g w
 |dis {f:Δ->dD}{O:ϑ}{g:Ϛ}{w:Δ} (hrun:g.status=.running)
  (hgo:∀wL,Rely O K (WgLive ty Wg) w wL->∃g',stepG P false g wL=.go g' wL #[mk .disable])
  (h:∀wL g' w' es,Rely O K (WgLive ty Wg) w wL->stepG P false g wL=.go g' w' es->Wk P ty Wg Q K (f wL) 5 1 O g' w'):Wk P ty Wg Q K (.node f) 6 0 O g w
 |add {f:Δ->dD}{O:ϑ}{g:Ϛ}{w:Δ} (hrun:g.status=.running)
  (hgo:∀wL,Rely O K (WgLive ty Wg) w wL->∀v wt:Nat,wt<=1->v<2147483647->WgAt ty Wg wL ((v+1)*KK+wt) 0->∃g',stepG P false g wL=.go g' (wL.setCell (stA Wg) (.int .u64 (v*KK+wt))) #[rd (stA Wg),wr (stA Wg)])
  (h4:∀wL g' w' es,Rely O K (WgLive ty Wg) w wL->WgAt ty Wg wL (((0:Nat)+1)*KK+(1:Nat)) 0->stepG P false g wL=.go g' w' es->Wk P ty Wg Q K (f wL) 4 1 O g' w')
  (h1:∀wL g' w' es(v wt:Nat),Rely O K (WgLive ty Wg) w wL->wt<=1->v<2147483647->WgAt ty Wg wL ((v+1)*KK+wt) 0->¬(v=0/\wt=1)->stepG P false g wL=.go g' w' es->Wk P ty Wg Q K (f wL) 1 1 O g' w'):Wk P ty Wg Q K (.node f) 5 1 O g w
 |d2 {f:Δ->dD}{O:ϑ}{g:Ϛ}{w:Δ} (hrun:g.status=.running)
  (hgo:∀wL,Rely O K (WgLive ty Wg) w wL->WgAt ty Wg wL 1 0->∃g',stepG P false g wL=.go g' wL #[rd (stA Wg)])
  (h:∀wL g' w' es,Rely O K (WgLive ty Wg) w wL->WgAt ty Wg wL 1 0->stepG P false g wL=.go g' w' es->Wk P ty Wg Q K (f wL) 3 1 O g' w'):Wk P ty Wg Q K (.node f) 4 1 O g w
 |d3 {f:Δ->dD}{O:ϑ}{g:Ϛ}{w:Δ} (hrun:g.status=.running)
  (hgo:∀wL,Rely O K (WgLive ty Wg) w wL->WgAt ty Wg wL 1 0->∃g',stepG P false g wL=.go g' (wL.setCell (stA Wg) (.int .u64 0)) #[wr (stA Wg)])
  (h:∀wL g' w' es,Rely O K (WgLive ty Wg) w wL->WgAt ty Wg wL 1 0->stepG P false g wL=.go g' w' es->Wk P ty Wg Q K (f wL) 2 1 O g' w'):Wk P ty Wg Q K (.node f) 3 1 O g w
 |d4 {f:Δ->dD}{O:ϑ}{g:Ϛ}{w:Δ} (hrun:g.status=.running) (hmw:mayWake P g=true)
  (hgo:∀wL,Rely O K (WgLive ty Wg) w wL->WgAt ty Wg wL 0 0->∃g',stepG P false g wL=.go g' (wL.setCell (smA Wg) (.int .u32 1)) (semEvents (smA Wg))/\g'.status=.running)
  (h:∀wL g' w' es,Rely O K (WgLive ty Wg) w wL->WgAt ty Wg wL 0 0->stepG P false g wL=.go g' w' es->Wk P ty Wg Q K (f wL) 1 1 O g' w'):Wk P ty Wg Q K (.node f) 2 1 O g w
 |quit {T:dD}{d:Nat}{O:ϑ}{g g':Ϛ}{es:Array Event}{w:Δ} (hrun:g.status=.running) (hm:∀e∈es,Event.mute e=true) (hst:∀wL,stepG P false g wL=.go g' wL es)
  (h:∀wL,Wk P ty Wg Q K T 1 (deafBehind d es) O g' wL):Wk P ty Wg Q K (.node λ_=>T) 1 d O g w
 |fin {O:ϑ}{g:Ϛ}{w:Δ} (hf:g.status=.finished):Wk P ty Wg Q K .leaf 1 0 O g w
section
variable {P:ϛ}{ty:ϟ}{Wg:Nat}{Q:bE}{K:ϑ}
def Wk.b{T:dD}{O:ϑ}{g:Ϛ}{w:Δ}(h:Wk P ty Wg Q K T s d O g w):(g.status=.running\/g.status=.finished)/\(s≠1->g.status=.running):=by
 cases h with
 |fin h=>grind
 |quit h=>grind
 |idle _ h=>grind
 |rel h=>grind
 |dis h=>grind
 |add h=>grind
 |d2 h=>grind
 |d3 h=>grind
 |d4 h=>grind
def Wk.c:∀{n d:Nat}{g:Ϛ},QuitsD P n d g->∃T,∀(i:ϟ)(k:Nat)(Q:bE)(K O:ϑ)(w:Δ),Wk P i k Q K T 1 d O g w
 |0,d,g,h=>⟨.leaf,λ_ _ _ _ _ _=>by obtain⟨b,rfl⟩:=h;exact .fin b⟩
 |n+1,d,g,h=>by rcases h with ⟨b,rfl⟩|⟨l,o,p,m,c,f⟩;exact⟨.leaf,λ_ _ _ _ _ _=>.fin b⟩;let⟨T,e⟩:=Wk.c f;exact⟨.node λ_=>T,λ_ _ _ _ _ _=>.quit l m c λa=>e _ _ _ _ _ a⟩
def Wk.h{T:dD}{O:ϑ}{g:Ϛ}{w:Δ}(h:Wk P ty Wg Q K T s d O g w):s=1->∃n,QuitsD P n d g:=by
 induction h with
 |fin h=>exact λ_=>⟨0,h,rfl⟩
 |@quit T d O g e i w a k b _ f=>intro _;obtain⟨n,c⟩:=f default rfl;exact⟨n+1,.inr ⟨a,e,i,k,b,c⟩⟩
 |idle l=>lia
 |_=>lia
def Wk.e{T:dD}{O:ϑ}{g:Ϛ}{w:Δ}(h:Wk P ty Wg Q K T s d O g w):s=1->∀(c:ϟ)(f:Nat)(o:bE)(k p:ϑ)(m:Δ),Wk P c f o k T 1 d p g m:=by
 induction h with
 |fin h=>exact λ_ _ _ _ _ _ _=>.fin h
 |@quit T d O g r t w a n i _ l=>intro _ _ _ _ _ _ _;exact .quit a n i λb=>l b rfl _ _ _ _ _ _
 |idle q=>lia
 |_=>omega
end
inductive nX where
 |free|sp|ad|ae|go|an (b:Nat)|w2 (vs:Nat)|w3|w4|ke|aq
def nX.b:nX->Nat
 |.free|.sp|.go|.aq=>0
 |_=>1
def nX.a:nX->Nat
 |.ae|.go=>1
 |_=>0
def nX.open:nX->Prop
 |.sp|.ad|.ae|.go|.an _|.w2 _=>True
 |_=>False
def nX.fin:nX->Prop
 |.w4|.ke|.aq=>True
 |_=>False
def Al(ty:ϟ)(Wg:Nat)(tag:nX):Ξ:=λw=>tag≠.free->WgLive ty Wg w
def XS(Wg:Nat)(tag:nX):Ϥ:=λe=>tag≠.free/\∃a:Addr,a.block=Wg/\(e.loc=.mark (.read a)\/e.loc=.mark (.write a))
inductive aC(P:ϛ)(ty:ϟ)(Post:Θ->Ξ):Nat->List bE->nX->(ϑ)->(ϑ)->Ϛ->Ξ
 |idle {Wg:Nat}{Qs:List bE}{tag:nX}{O K:ϑ}{g:Ϛ}{w:Δ} (hrun:g.status=.running)
  (hgo:∀wL,Rely O K (Al ty Wg tag) w wL->∃g' w' es,stepG P true g wL=.go g' w' es/\Guar O K (XS Wg tag) wL w' es)
  (h:∀wL g' w' es,Rely O K (Al ty Wg tag) w wL->stepG P true g wL=.go g' w' es->aC P ty Post Wg Qs tag (grow O wL w') K g' w'):aC P ty Post Wg Qs tag O K g w
 |fin {Wg:Nat}{O K:ϑ}{g:Ϛ}{w:Δ} (hrun:g.status=.running)
  (hgo:∀wL,Rely O K (Al ty Wg .free) w wL->∃v es,stepG P true g wL=.ended (.done v) wL es/\(∀e∈es,Ev O K e)/\Post v wL):aC P ty Post Wg [] .free O K g w
 |enter {WgA Wg:Nat}{O K:ϑ}{g:Ϛ}{w:Δ} (hO:O Wg) (hW:WgAt ty Wg w 0 0) (h:aC P ty Post Wg [] .sp (λb=>O b/\b≠Wg) K g w):aC P ty Post WgA [] .free O K g w
 |kd {Wg:Nat}{Qs:List bE}{O K:ϑ}{g:Ϛ}{w:Δ} (hrun:g.status=.running)
  (hgo:∀wL,Rely O K (Al ty Wg .sp) w wL->∃g',stepG P true g wL=.go g' wL #[mk .disable])
  (h:∀wL g' w' es,Rely O K (Al ty Wg .sp) w wL->stepG P true g wL=.go g' w' es->aC P ty Post Wg Qs .ad O K g' w'):aC P ty Post Wg Qs .sp O K g w
 |add {Wg:Nat}{Qs:List bE}{O K:ϑ}{g:Ϛ}{w:Δ} (hrun:g.status=.running) (hlen:Qs.length<2147483647)
  (hgo:∀wL,Rely O K (Al ty Wg .ad) w wL->∀v:Nat,v<=Qs.length->WgAt ty Wg wL (v*KK) 0->∃g',stepG P true g wL=.go g' (wL.setCell (stA Wg) (.int .u64 ((v+1)*KK))) #[rd (stA Wg),wr (stA Wg)])
  (h:∀wL g' w' es(v:Nat),Rely O K (Al ty Wg .ad) w wL->v<=Qs.length->WgAt ty Wg wL (v*KK) 0->stepG P true g wL=.go g' w' es->aC P ty Post Wg Qs .ae O K g' w'):aC P ty Post Wg Qs .ad O K g w
 |en {Wg:Nat}{Qs:List bE}{O K:ϑ}{g:Ϛ}{w:Δ} (hrun:g.status=.running)
  (hgo:∀wL,Rely O K (Al ty Wg .ae) w wL->∃g',stepG P true g wL=.go g' wL #[mk .enable])
  (h:∀wL g' w' es,Rely O K (Al ty Wg .ae) w wL->stepG P true g wL=.go g' w' es->aC P ty Post Wg Qs .go O K g' w'):aC P ty Post Wg Qs .ae O K g w
 |go {Wg:Nat}{Qs:List bE}{O K:ϑ}{g:Ϛ}{w:Δ} (Q:bE) (Bs R:ϑ) (hrun:g.status=.running) (hlen:Qs.length<2147483647)
  (hB:∀b,Bs b->O b) (hR:∀b,R b->O b\/K b) (hBR:∀b,Bs b->¬R b)
  (hgo:∀wL,Rely O K (Al ty Wg .go) w wL->∃g' child,stepG P true g wL=.spawn g' child wL #[])
  (hc:∀wL g' child w' es,Rely O K (Al ty Wg .go) w wL->stepG P true g wL=.spawn g' child w' es->∃T,Wk P ty Wg Q R T 7 0 Bs child wL)
  (h:∀wL g' child w' es,Rely O K (Al ty Wg .go) w wL->stepG P true g wL=.spawn g' child w' es->aC P ty Post Wg (Qs++[Q]) .sp (λb=>O b/\¬Bs b/\¬R b) (λb=>K b\/R b) g' w'):aC P ty Post Wg Qs .go O K g w
 |wd {Wg:Nat}{Qs:List bE}{O K:ϑ}{g:Ϛ}{w:Δ} (hrun:g.status=.running)
  (hgo:∀wL,Rely O K (Al ty Wg .sp) w wL->∃g',stepG P true g wL=.go g' wL #[mk .disable])
  (h:∀wL g' w' es,Rely O K (Al ty Wg .sp) w wL->stepG P true g wL=.go g' w' es->aC P ty Post Wg Qs (.an Qs.length) O K g' w'):aC P ty Post Wg Qs .sp O K g w
 |ld {Wg b:Nat}{Qs:List bE}{O K:ϑ}{g:Ϛ}{w:Δ} (hrun:g.status=.running)
  (hgo:∀wL,Rely O K (Al ty Wg (.an b)) w wL->∀v:Nat,v<=b->WgAt ty Wg wL (v*KK) 0->∃g',stepG P true g wL=.go g' wL #[rd (stA Wg)])
  (h0:∀wL g' w' es,Rely O K (Al ty Wg (.an b)) w wL->WgAt ty Wg wL ((0:Nat)*KK) 0->stepG P true g wL=.go g' w' es->aC P ty Post Wg Qs .ke O K g' w')
  (h1:∀wL g' w' es(v:Nat),Rely O K (Al ty Wg (.an b)) w wL->1<=v->v<=b->WgAt ty Wg wL (v*KK) 0->stepG P true g wL=.go g' w' es->aC P ty Post Wg Qs (.w2 v) O K g' w'):aC P ty Post Wg Qs (.an b) O K g w
 |cas {Wg vs:Nat}{Qs:List bE}{O K:ϑ}{g:Ϛ}{w:Δ} (hrun:g.status=.running)
  (hhit:∀wL,Rely O K (Al ty Wg (.w2 vs)) w wL->WgAt ty Wg wL (vs*KK) 0->∃g',stepG P true g wL=.go g' (wL.setCell (stA Wg) (.int .u64 (vs*KK+1))) #[rd (stA Wg),wr (stA Wg)])
  (hmiss:∀wL,Rely O K (Al ty Wg (.w2 vs)) w wL->∀v:Nat,v<vs->WgAt ty Wg wL (v*KK) 0->∃g',stepG P true g wL=.go g' wL #[rd (stA Wg)])
  (h3:∀wL g' w' es,Rely O K (Al ty Wg (.w2 vs)) w wL->WgAt ty Wg wL (vs*KK) 0->stepG P true g wL=.go g' w' es->aC P ty Post Wg Qs .w3 O K g' w')
  (ha:∀wL g' w' es(v:Nat),Rely O K (Al ty Wg (.w2 vs)) w wL->v<vs->WgAt ty Wg wL (v*KK) 0->stepG P true g wL=.go g' w' es->aC P ty Post Wg Qs (.an v) O K g' w'):aC P ty Post Wg Qs (.w2 vs) O K g w
 |sem {Wg:Nat}{Qs:List bE}{O K:ϑ}{g:Ϛ}{w:Δ} (hrun:g.status=.running) (hoff:g.offers=none)
  (hblk:∀wL,Rely O K (Al ty Wg .w3) w wL->∀st,WgAt ty Wg wL st 0->stepG P true g wL=.go {g with status:=.blocked} wL #[])
  (hgo:∀wL,Rely O K (Al ty Wg .w3) w wL->WgAt ty Wg wL 0 1->∃g',stepG P true g wL=.go g' (wL.setCell (smA Wg) (.int .u32 0)) (semEvents (smA Wg)))
  (h:∀wL g' w' es,Rely O K (Al ty Wg .w3) w wL->WgAt ty Wg wL 0 1->stepG P true g wL=.go g' w' es->aC P ty Post Wg Qs .w4 O K g' w'):aC P ty Post Wg Qs .w3 O K g w
 |l4 {Wg:Nat}{Qs:List bE}{O K:ϑ}{g:Ϛ}{w:Δ} (hrun:g.status=.running)
  (hgo:∀wL,Rely O K (Al ty Wg .w4) w wL->WgAt ty Wg wL 0 0->∃g',stepG P true g wL=.go g' wL #[rd (stA Wg)])
  (h:∀wL g' w' es,Rely O K (Al ty Wg .w4) w wL->WgAt ty Wg wL 0 0->stepG P true g wL=.go g' w' es->aC P ty Post Wg Qs .ke O K g' w'):aC P ty Post Wg Qs .w4 O K g w
 |ke {Wg:Nat}{Qs:List bE}{O K:ϑ}{g:Ϛ}{w:Δ} (hrun:g.status=.running)
  (hgo:∀wL,Rely O K (Al ty Wg .ke) w wL->∃g',stepG P true g wL=.go g' wL #[mk .enable])
  (h:∀wL g' w' es,Rely O K (Al ty Wg .ke) w wL->stepG P true g wL=.go g' w' es->aC P ty Post Wg Qs .aq O K g' w'):aC P ty Post Wg Qs .ke O K g w
 |aq {Wg:Nat}{Qs:List bE}{O K:ϑ}{g:Ϛ}{w:Δ} (hrun:g.status=.running)
  (hgo:∀wL,Rely O K (Al ty Wg .aq) w wL->∃g',stepG P true g wL=.go g' wL #[mk (.acquire (stA Wg))])
  (h:∀wL g' w' es(Os:Nat->ϑ),Rely O K (Al ty Wg .aq) w wL->(∀(i:Nat)(Q:bE),Qs[i]?=some Q->Q (Os i) wL)->(∀i,i<Qs.length->∀b,Os i b->¬O b/\¬K b/\b<wL.heap.size)->
   (∀i k,i<Qs.length->k<Qs.length->i≠k->∀b,Os i b->¬Os k b)->stepG P true g wL=.go g' w' es->aC P ty Post Wg [] .free (λb=>O b\/∃i,i<Qs.length/\Os i b) K g' w'):aC P ty Post Wg Qs .aq O K g w
structure WS where
 a:Nat
 c:Nat
 e:ϑ
 h:ϑ
 q:bE
 f:Δ
 b:dD
def oM(d:WS):Nat:=if 5<=d.a then 1 else 0
def Vc(j:Nat)(D:Nat->WS):Nat:=sumTo j λi=>oM (D i)
def ij(j:Nat)(D:Nat->WS):Prop:=∀i,i<j->(D i).a=7\/(D i).a=6\/(D i).a=5\/(D i).a=1
def dK(j:Nat)(D:Nat->WS):Prop:=∀i,i<j->(D i).a=1
inductive MD(ty:ϟ)(Wg j:Nat)(D:Nat->WS)(w:Δ):nX->Bool->Prop
 |free:dK j D->MD ty Wg j D w .free false
 |opn {tag:nX}:tag.open->ij j D->(∀b,tag=.an b->Vc j D<=b)->(∀vs,tag=.w2 vs->Vc j D<=vs/\1<=vs)->WgAt ty Wg w (((Vc j D+tag.a:Nat):Int)*KK) 0->MD ty Wg j D w tag false
 |reg {blk:Bool}:ij j D->1<=Vc j D->WgAt ty Wg w (((Vc j D:Nat):Int)*KK+1) 0->MD ty Wg j D w .w3 blk
 |last {blk:Bool} (L:Nat):L<j->((D L).a=4\/(D L).a=3\/(D L).a=2)->(∀i,i<j->i≠L->(D i).a=1)->WgAt ty Wg w (if (D L).a=2 then 0 else 1) 0->MD ty Wg j D w .w3 blk
 |sema:dK j D->WgAt ty Wg w 0 1->MD ty Wg j D w .w3 false
 |fin {tag:nX}:tag.fin->dK j D->WgAt ty Wg w 0 0->MD ty Wg j D w tag false
structure kA(P:ϛ)(ty:ϟ)(Wg:Nat)(Qs:List bE)(tag:nX)(blk:Bool)(O K:ϑ)(g:Ϛ)(wst:Δ)(W:ϑ)(base:Nat)(D:Nat->WS)(gs:Array Ϛ)(w:Δ)(t:Trace):Prop where
 p:gs[0]?=some (if blk then {g with status:=.blocked} else g)
 u:g.status=.running
 v:blk=true->g.offers=none
 a:Rely O K (Al ty Wg tag) wst w
 size:gs.size=base+Qs.length+1
 wk:∀i,i<base+Qs.length->∃x,gs[i+1]?=some x/\Wk P ty Wg (D i).q (D i).h (D i).b (D i).a (D i).c (D i).e x (D i).f
 rely:∀i,base<=i->i<base+Qs.length->Rely (D i).e (D i).h (WgLive ty Wg) (D i).f w
 n:∀i,i<base->(D i).a=1
 qs:∀i,i<Qs.length->Qs[i]?=some (D (base+i)).q
 k:tag=.free->Qs=[]
 y:tag≠.free->W Wg
 b:Ht W O K (base+Qs.length) (λi=>(D i).e) (λi=>(D i).h) w.heap.size
 z:TL W O K base (base+Qs.length) (λi=>(D i).e) (λi=>(D i).h) w.heap.size t
 h:Deaf t 0=tag.b
 f:∀i,i<base+Qs.length->Deaf t (i+1)=(D i).c
 rel:∀i,base<=i->i<base+Qs.length->(D i).a<=6->∃r,sk (stA Wg) W t (i+1) r
 q:∀i,base<=i->i<base+Qs.length->(D i).a<=6->∀wL,Rely (D i).e (D i).h (WgLive ty Wg) (D i).f wL->(D i).q (D i).e wL
 c:MD ty Wg (base+Qs.length) D w tag blk
 l:Qs.length+tag.a<2147483648
section
variable {P:ϛ}{ty:ϟ}{Wg:Nat}{Qs:List bE}{tag:nX}{blk:Bool}{O K:ϑ}{g:Ϛ}{wst:Δ}{W:ϑ}{base:Nat}{D:Nat->WS}{gs:Array Ϛ}{w w':Δ}{t:Trace}
def MD.at(h:MD ty Wg j D w tag blk)(d:Nat):MD ty Wg j D (w.at d) tag blk:=by
 cases h with
 |free h=>exact .free h
 |opn b a c e f=>exact .opn b a c e f
 |reg b a c=>exact .reg b a c
 |last L b a c e=>exact .last L b a c e
 |sema b a=>exact .sema b a
 |fin b a c=>exact .fin b a c
def MD.block(h:MD ty Wg j D w tag blk)(e:tag≠.free->w'.heap[Wg]?=w.heap[Wg]?):MD ty Wg j D w' tag blk:=by
 cases h with
 |free h=>exact .free h
 |opn a b c f i=>exact .opn a b c f ((e (by rintro rfl;exact a)).trans i)
 |reg a b c=>exact .reg a b ((e ς).trans c)
 |last L a b c f=>exact .last L a b c ((e ς).trans f)
 |sema a b=>exact .sema a ((e ς).trans b)
 |fin a b c=>exact .fin a b ((e (by rintro rfl;exact a)).trans c)
def MD.c(h:MD ty Wg j D w tag blk){a:Bool}(i:a=blk\/a=false):MD ty Wg j D w tag a:=by
 rcases i with rfl|rfl;exact h;cases h with
 |free h=>exact .free h
 |opn c b e f k=>exact .opn c b e f k
 |reg c b e=>exact .reg c b e
 |last L c b e f=>exact .last L c b e f
 |sema c b=>exact .sema c b
 |fin c b e=>exact .fin c b e
def xr{O K:ϑ}{A:Ξ}(a:∀w d,A w->A (w.at d))(w:Δ)(d:Nat):Rely O K A w (w.at d):=⟨λ_ _=>rfl,Ϫ,rfl,a w d⟩
def kA.at(h:kA P ty Wg Qs tag blk O K g wst W base D gs w t)(d:Nat):kA P ty Wg Qs tag blk O K g wst W base D gs (w.at d) t:=
 {h with a:=h.a.e (xr (λ_ _ x y=>x y) w d),rely:=λi b a=>(h.rely i b a).e (xr (λ_ _ x=>x) w d),c:=h.c.at d}
def oO{g:Nat}{O K W:ϑ}{X:Ϥ}{k:String}(q:∀b,O b->b<B)(A:∀b,K b->b<B)(h:∀e∈es,Ev O K e\/X e)(v:∀e,X e->g=0/\∃a:Addr,W a.block/\a.block<B/\(e.loc=.mark (.read a)\/e.loc=.mark (.write a))):I6 g O K W B (MemOp.ofEvents g fn k es):=by
 intro E p;obtain⟨e,z,rfl⟩:=Conc.mem_ofEvents p;refine⟨rfl,?_⟩;let⟨l,n,F⟩:=e;rcases h _ z with f|f
 .cases l with
  |cell a=>
   refine⟨λx c=>?_,?_,by simp[MemAct.ofEvent]⟩;simp only[MemAct.ofEvent,MemAct.touch?,yA]at c;subst c;rcases f with f|⟨f,i,_⟩;exact .inr (.inl f);exact .inr (.inr (.inl ⟨f,i⟩));exact f.elim (q _) λx=>A _ x.1
  |obj b=>
   let⟨u,o⟩:=f;subst o;refine⟨λx c=>?_,?_,by cases n<;>simp[MemAct.ofEvent]⟩
   .cases n<;>(simp only[MemAct.ofEvent,MemAct.touch?,yA]at c;subst c;exact .inr (.inl u))
   cases n<;>exact q _ u
  |mark m=>
   subst f;exact⟨λx c=>by simp[MemAct.ofEvent,MemAct.touch?]at c,trivial,by simp[MemAct.ofEvent]⟩
  |output=>exact⟨λx c=>by simp only[MemAct.ofEvent,MemAct.touch?,yA]at c;subst c;exact .inl rfl,trivial,by simp[MemAct.ofEvent]⟩
  |goroutines=>exact f.elim
 obtain⟨rfl,a,i,r,y⟩:=v _ f;rcases y with rfl|rfl;refine⟨λx c=>?_,r,by simp[MemAct.ofEvent]⟩;simp only[MemAct.ofEvent,MemAct.touch?,yA]at c;subst c;exact .inr (.inr (.inr ⟨i,ς⟩));refine⟨λx c=>?_,r,by simp[MemAct.ofEvent]⟩;simp only[MemAct.ofEvent,MemAct.touch?,yA]at c;subst c;exact .inr (.inr (.inr ⟨i,ς⟩))
theorem C7{g:Nat}{O K W:ϑ}{c:Nat}{i:String}(l:W c)(o:c<B)(h:∀e∈es,Bk c e):I6 g O K W B (MemOp.ofEvents g fn i es):=by intro p k;obtain⟨e,m,rfl⟩:=Conc.mem_ofEvents k;refine⟨rfl,?_⟩;rcases h e m with f|f|⟨a,q,rfl,n⟩;simp only[ofEvent_loc_mark f];exact⟨λx b=>(by cases b),trivial,ς⟩;simp only[ofEvent_loc_mark f];exact⟨λx b=>(by cases b),trivial,ς⟩;simp only[ofEvent_cell];refine⟨λx b=>?_,by show a.block<B;lia,ς⟩;simp only[MemAct.touch?,yA]at b;subst b;exact .inr (.inr (.inr ⟨by show W _;rwa [n],.inl rfl⟩))
def sk.b{a:Addr}{u:Trace}{k r g:Nat}(h:sk a W t k r)(m:∀e∈u,e.g=g)(p:g≠k):sk a W (t++u) k r:=by refine⟨h.d.appOther m p,λi x q b n=>?_⟩;rcases bk n with c|⟨e,l,_,f⟩;let⟨z,o,_⟩:=touch_of c;exact h.c i x q (by grind[g?_old]) c;simp[Trace.g?,f,m e l]at b;lia
def kA.o(h:kA P ty Wg Qs tag blk O K g wst W base D gs w t){i:Nat}(hi:i<base+Qs.length){x F:Ϛ}{s':WS}(b2:i<base->s'.a=1)(hq:s'.q=(D i).q)(T:s'.h=(D i).h)(a0:s'.f=w')(G:∀b,b<w.heap.size->¬(D i).e b->¬W b->w'.heap[b]?=w.heap[b]?)(E:w.heap.size<=w')(a5:w'.eo=w.eo)(u:WgLive ty Wg w->WgLive ty Wg w')(b1:∀b,s'.e b->(D i).e b\/(w<=b/\b<w'))(a4:Wk P ty Wg s'.q s'.h s'.b s'.a s'.c s'.e F w')(a9:TL W O K base (base+Qs.length) (λk=>(upd D i s' k).e) (λk=>(D k).h) w' (t++MemOp.ofEvents (i+1) x.frame.fn x.frame.place es))(M:deafBehind (D i).c es=s'.c)(V:base<=i->s'.a<=6->∃r,sk (stA Wg) W (t++MemOp.ofEvents (i+1) x.frame.fn x.frame.place es) (i+1) r)(a7:base<=i->s'.a<=6->∀L,Rely s'.e s'.h (WgLive ty Wg) s'.f L->s'.q s'.e L)(Q:∀c,(c=blk\/c=false)->(mayWake P x=true->F.status=.running->c=false)->MD ty Wg (base+Qs.length) (upd D i s') w' tag c):∃c,kA P ty Wg Qs tag c O K g wst W base (upd D i s') ((gs.map (woken P x F w')).setIfInBounds (i+1) F) w' (t++MemOp.ofEvents (i+1) x.frame.fn x.frame.place es):=by
 obtain⟨c,a8,X,a6⟩:∃c:Bool,woken P x F w' (if blk then {g with status:=.blocked} else g)=(if c then {g with status:=.blocked} else g)/\(c=blk\/c=false)/\(mayWake P x=true->F.status=.running->c=false):=by cases b0:blk;refine⟨_,?_,.inl rfl,λ_ _=>rfl⟩;unfold woken;grind[again_running,u];by_cases hc:(mayWake P x&&F.status !=.blocked&&F.status !=.waiting)=true;refine⟨_,?_,.inr rfl,λ_ _=>rfl⟩;unfold woken;rw[if_pos hc];exact ConcR.again_blocked h.u (h.v b0) w';refine⟨true,?_,.inl rfl,λm H=>absurd ν hc⟩;unfold woken;grind
 have Z:∀(v p:ϑ)(A:Ξ),(∀b,v b\/p b->b<w/\¬(D i).e b/\¬W b)->(A w->A w')->Rely v p A w w':=λv p A m H=>
  ⟨λb a=>let ⟨a1,a2,a3⟩:=m b a;G b a1 a2 a3,E,a5,H⟩
 refine⟨c,⟨?_,h.u,λe=>h.v ((by grind)),h.a.e (Z O K _ (λb a=>?_) λhA hf=>u (hA hf)),by simp[h.size],λk f=>?_,λk N z=>?_,λk f=>?_,λk f=>?_,h.k,h.y,?_,?_,?_,λk f=>?_,λk N z C=>?_,λk N z C=>?_,Q c X a6,h.l⟩⟩;rw[get_map_set _ _ _ _ ω,h.p,yp,a8];refine⟨h.b.a b ν,λo=>?_,λe=>?_⟩;exact a.elim (λx=>(h.b.e i hi b x).1 o) λx=>h.b.h i hi b x o;exact a.elim (h.b.f b e).1 (h.b.f b e).2
 .by_cases e:k=i
  grind[upd_same,size]
  let⟨y,hy,U⟩:=h.wk k f;rw[upd_ne D _ e];refine⟨y,?_,U⟩;rw[get_map_set _ _ _ _ ω,hy,yp];unfold woken;split;rw[again_running w' U.b.1];rfl
 .by_cases e:k=i
  grind[upd_same,Rely.c]
  rw[upd_ne D _ e];refine(h.rely k N z).e (Z _ _ _ (λb a=>⟨h.b.d k z b a,λo=>?_,λe'=>?_⟩) u);exact a.elim (λx=>h.b.l i k hi z (Ne.symm e) b o x) λx=>h.b.m i k hi z b o x;exact a.elim (h.b.c k z b e').1 (h.b.c k z b e').2
 .by_cases e:k=i
  grind[upd_same]
  rw[upd_ne D _ e];exact h.n k f
 .by_cases e:base+k=i
  subst e;rw[upd_same,hq];exact h.qs k f;rw[upd_ne D _ e];exact h.qs k f
 ·
  have S:=h.b;have hr:∀k,(upd D i s' k).h=(D k).h:=λk=>by grind[upd_same,upd_ne]
  have o:∀k b,k<base+Qs.length->(upd D i s' k).e b->(D k).e b\/(k=i/\w<=b/\b<w'):=λk b _ a=>by grind[upd_same,upd_ne]
  refine⟨λb a=>yg (S.a b a) E,λk f b a=>?_,S.ok,S.f,λk f b a=>⟨λn=>?_,λn=>?_⟩,λk f b a=>⟨λn=>?_,λn=>?_⟩,λk f b a n=>?_,λk l f R Y b a n=>?_,λk l f R b a n=>?_⟩
  .rcases a with a|a
   .rcases o k b f a with m|⟨_,_,m⟩;exact yg (S.d k f b (.inl m)) E;lia
   rw[hr]at a;exact yg (S.d k f b (.inr a)) E
  rcases o k b f n with m|⟨_,m,_⟩;exact(S.c k f b a).1 m;exact absurd (S.a b (.inr (.inr a))) (xl.2 m);rw[hr]at n;exact(S.c k f b a).2 n;rcases o k b f n with m|⟨_,m,_⟩;exact(S.e k f b a).1 m;exact absurd (S.a b (.inl a)) (xl.2 m);rw[hr]at n;exact(S.e k f b a).2 n;rcases o k b f n with m|⟨_,m,_⟩;exact S.h k f b a m;exact absurd (S.a b (.inr (.inl a))) (xl.2 m)
  .rcases o k b f a with m|⟨e1,m,_⟩;rcases o l b R n with H|⟨_,H,_⟩;exact S.l k l f R Y b m H;exact absurd (S.d k f b (.inl m)) (xl.2 H);rcases o l b R n with H|⟨e2,H,_⟩;exact absurd (S.d l R b (.inl H)) (xl.2 m);omega
  rw[hr]at n;rcases o k b f a with m|⟨_,m,_⟩;exact S.m k l f R b m n;exact absurd (S.d l R b (.inr n)) (xl.2 m)
 grind[upd_same,upd_ne]
 rw[Deaf_other t (g':=i+1) ω _ g_of_ofEvents];exact h.h
 .by_cases e:k=i
  subst e;rwa [upd_same,Deaf_own,h.f k f];rw[upd_ne D _ e,Deaf_other t (g':=i+1) ω _ g_of_ofEvents];exact h.f k f
 .by_cases e:k=i
  subst e;rw[upd_same]at C;exact V N C;rw[upd_ne D _ e]at C;let⟨r,hr⟩:=h.rel k N z C;exact⟨r,hr.b g_of_ofEvents ω⟩
 by_cases e:k=i
 subst e;rw[upd_same]at C|-;exact a7 N C;rw[upd_ne D _ e]at C|-;exact h.q k N z C
end
end
section
open Go Go.Conc
open Go.ConcN (PermW fork_knows RelBy WgLive sumTo upd upd_same upd_ne sumTo_upd sumTo_upd_out sumTo_congr get_map_set get_map_set_same)
open Go.ConcR (KK wgBlock WgAt stA smA rd wr mk Bk g_of_ofEvents ofEvent_loc_mark ofEvent_cell ofEvent_mk loc_of_ofEvent bk_of_mute WgAt.setSt WgAt.setSm)
open Go.Pm (Rely Guar Ev grow Way)
variable {es:Array Event}{x:Ϛ}{am KV:ϑ}
section
variable{ty:ϟ}{Wg j i:Nat}{D:Nat->WS}{w:Δ}{tag:nX}{blk:Bool}
def MD.d{k:Nat->WS}(c:∀a,a<j->(k a).a=(D a).a)(h:MD ty Wg j D w tag blk):MD ty Wg j k w tag blk:=by
 have m:Vc j k=Vc j D:=sumTo_congr λa d=>by grind[oM]
 have o:ij j D->ij j k:=λh a d=>c a d▸h a d;have l:dK j D->dK j k:=λh a d=>c a d▸h a d;cases h with
 |free h=>exact .free (l h)
 |opn b f g n p=>exact .opn b (o f) ν ν (by rwa [m])
 |reg b f g=>exact .reg (o b) ω (by rwa [m])
 |last L b f g n=>exact .last L b ν (λa d e=>ν) (by rwa [c L b])
 |sema b f=>exact .sema (l b) f
 |fin b f g=>exact .fin b (l f) g
def iQ(b:WS)(h:b.a=(D i).a):∀a,a<j->(upd D i b a).a=(D a).a:=λa _=>by grind[upd_same,upd_ne]
def CP(x:WS)(a:i<j):Vc j (upd D i x)+oM (D i)=Vc j D+oM x:=sumTo_upd D x oM a
def iP(x:WS)(b:x.a=7\/x.a=6\/x.a=5\/x.a=1)(h:ij j D):ij j (upd D i x):=λa c=>by
 by_cases e:a=i
 grind[upd_same]
 rw[upd_ne D _ e];exact h a c
def MD.f(h:MD ty Wg j D w tag blk)(f:i<j)(g:5<=(D i).a)(x:WS)(m:x.a=6\/x.a=5):MD ty Wg j (upd D i x) w tag blk:=by
 have k:Vc j (upd D i x)=Vc j D:=by
  have:=CP x f (D:=D);have o:oM (D i)=1:=by simp[oM,g]
  have p:oM x=1:=by rcases m with e|e<;>simp[oM,e]
  lia
 have l:ij j D->ij j (upd D i x):=iP x ω;have d:dK j D->False:=λh=>ϕ (h i f);cases h with
 |free h=>grind
 |opn a b c n g=>exact .opn a (l b) ν ν (by rwa [k])
 |reg a b c=>exact .reg (l a) ω (by rwa [k])
 |last L a b c n=>
  grind
 |sema a b=>grind
 |fin a b c=>grind
def MD.e(h:MD ty Wg j D w tag blk)(d:i<j)(k:(D i).a=4\/(D i).a=3\/(D i).a=2):tag=.w3/\(∀a,a<j->a≠i->(D a).a=1)/\WgAt ty Wg w (if (D i).a=2 then 0 else 1) 0:=by
 have g:dK j D->False:=λh=>ϕ (h i d);cases h with
 |free h=>grind
 |opn _ b _ _ _=>have:=b i d;lia
 |reg c _ _=>have:=c i d;lia
 |last L c b f e=>
  grind
 |sema c _=>grind
 |fin _ b _=>grind
def ue:∀(j a:Nat),a<=j->(∀i,i<a->(D i).a=1)->Vc j D<=j-a
 |0,a,d,_=>by simp[Vc,sumTo]
 |j+1,a,d,h=>by
   by_cases e:a=j+1
   .have:Vc (j+1) D=0:=
     have b:∀k,k<=j+1->sumTo k (λi=>oM (D i))=0:=by
      intro k;induction k with
      |zero=>intro _;rfl
      |succ k c=>intro f;simp only[sumTo];rw[c ω];simp[oM,h k ω]
     b _ Ϫ
    lia
   have:=ue j a ω h;have g:oM (D j)<=1:=by simp only[oM];split<;>lia
   simp only[Vc,sumTo]at this|-;lia
def jr:∀{j:Nat},1<=Vc j D->∃i,i<j/\5<=(D i).a
 |0,h=>by simp[Vc,sumTo]at h
 |j+1,h=>by
   by_cases a:5<=(D j).a
   grind
   obtain⟨i,b,c⟩:=jr (by simpa[Vc,sumTo,oM,a]using h);grind
def oL(h:ij j D)(c:Vc j D=0):dK j D:=λi b=>by
 have:=ConcN.le_sumTo (f:=λa=>oM (D a)) b;have d:oM (D i)=0:=by simp only[Vc]at c;lia
 simp only[oM]at d;have:=h i b;grind
end
section
variable {P:ϛ}{ty:ϟ}{Wg:Nat}{Qs:List bE}{tag:nX}{blk:Bool}{O K:ϑ}{g:Ϛ}{wst:Δ}{W:ϑ}{base:Nat}{D:Nat->WS}{gs:Array Ϛ}{w w':Δ}{t:Trace}
def sk.e{a:Addr}{k r d:Nat}(h:sk a W t k r)(s:W Wg)(o:Deaf t k=d)(q:FuncId)(f:String)(c:∀e∈es,Bk Wg e)(B:∀j e,es[j]?=some e->(MemAct.ofEvent e).touch?=none\/0<deafBehind d (es.extract 0 j)):sk a W (t++MemOp.ofEvents k q f es) k r:=by
 refine⟨h.d.book o q f c B,λi x v n y=>?_⟩;rcases bk y with l|⟨F,p,b,_⟩;let⟨z,u,_⟩:=touch_of l;exact h.c i x v (by grind[g?_old]) l;obtain⟨e,A,rfl⟩:=Conc.mem_ofEvents p;rcases c e A with m|m|⟨a,E,rfl,C⟩;simp only[ofEvent_loc_mark m]at b;cases b;simp only[ofEvent_loc_mark m]at b;cases b;simp only[ofEvent_cell,MemAct.touch?,yA]at b;subst b;exact⟨rfl,by show W _;rwa [C]⟩
def kA.m(h:kA P ty Wg Qs tag blk O K g wst W base D gs w t){i:Nat}(z:base<=i)(l:i<base+Qs.length){y:Ϛ}(f:Aside Wg w w')(F:WgLive ty Wg w->WgLive ty Wg w')(p:∀e∈es,Bk Wg e)(H:∀j e,es[j]?=some e->(MemAct.ofEvent e).touch?=none\/0<deafBehind (D i).c (es.extract 0 j)){T:dD}{E v:Nat}(s:(D i).a<=6)(m:deafBehind (D i).c es=v)(B:Wk P ty Wg (D i).q (D i).h T E v (D i).e y w')(n:∀a,(a=blk\/a=false)->(mayWake P x=true->y.status=.running->a=false)->MD ty Wg (base+Qs.length) (upd D i {D i with a:=E,c:=v,f:=w',b:=T}) w' tag a):∃a,kA P ty Wg Qs tag a O K g wst W base (upd D i {D i with a:=E,c:=v,f:=w',b:=T}) ((gs.map (woken P x y w')).setIfInBounds (i+1) y) w' (t++MemOp.ofEvents (i+1) x.frame.fn x.frame.place es):=by
 have c:=h.y (λe=>by have:=h.k e;grind);have G:=h.b.a Wg (.inr (.inr c));refine h.o l (λe=>ω) rfl rfl rfl (λb _ _ A=>f.block b λe=>A (e▸c)) (by rw[f.size];lia) (Pm.oV f.os f.output) F (λb d=>.inl d) B ?_ m (λ_ _=>?_) (λ_ _ u C=>?_) n
 .refine h.z.r h.b z l (by rw[f.size];lia) (λb d=>?_) (λk e=>by grind[upd_ne]) ?_;grind[upd_same];grind[C7,Aside.size]
 let⟨r,C⟩:=h.rel i z l s;exact⟨r,C.e c (h.f i l) _ _ p H⟩;refine h.q i z l s u ((h.rely i z l).e (Rely.e ⟨λb d=>f.block b λe=>?_,by rw[f.size];lia,(Pm.oV f.os f.output),F⟩ C));subst e;exact d.elim (h.b.c i l b c).1 (h.b.c i l b c).2
def AN(h:Guar am KV oK w w' es):∀e∈es,Ev (grow am w w') KV e:=λe a=>(h.c e a).resolve_right id
def zG{e:Event}(h:Ev am KV e):e.loc≠.mark .disable/\e.loc≠.mark .enable:=by
 let⟨a,d,b⟩:=e;cases a with
 |mark m=>have c:m=.noRoom:=h;grind
 |_=>simp
def uq(h:kA P ty Wg Qs tag blk O K g wst W base D gs w t){i:Nat}(B:i<base+Qs.length)(hx:gs[i+1]?=some x)(Z:x.status=.running)(sl:Option (Nat×Nat)):∃c s' Q G S,runT P (crowd gs w sl) (i+1)=(.next (crowd Q G sl),S)/\dD.a s'.b (D i).b/\kA P ty Wg Qs tag c O K g wst W base (upd D i s') Q G (t++S):=by
 let⟨x',a8,R⟩:=h.wk i B;rw[hx]at a8;cases a8;have p:∀{I:Ϛ}{G:Δ}{es:Array _}{s':WS},stepG P false x w=.go I G es->dD.a s'.b (D i).b->(∃c,kA P ty Wg Qs tag c O K g wst W base (upd D i s') ((gs.map (woken P x I G)).setIfInBounds (i+1) I) G (t++MemOp.ofEvents (i+1) x.frame.fn x.frame.place es))->
  ∃c s' Q G S,runT P (crowd gs w sl) (i+1)=(.next (crowd Q G sl),S)/\dD.a s'.b (D i).b/\kA P ty Wg Qs tag c O K g wst W base (upd D i s') Q G (t++S):=by
  intro I G es s' A b3 ⟨c,hI⟩;exact⟨c,s',_,G,_,runT_crowd_go hx (ϰ A),b3,hI⟩
 by_cases hb:base<=i
 .have a0:=h.y (λe=>by have:=h.k e;grind);have Y:=h.rely i hb B;obtain⟨T,hT⟩:∃T,(D i).b=T:=⟨_,rfl⟩;rw[hT]at R;obtain⟨s,hs⟩:∃s,(D i).a=s:=⟨_,rfl⟩;rw[hs]at R;obtain⟨dd,n⟩:∃dd,(D i).c=dd:=⟨_,rfl⟩;rw[n]at R;cases R with
  |@idle f s d F E r c3 q A u=>
   let⟨I,G,es,H,e2,e3⟩:=A w Y;have X:=u w I G es Y H;by_cases h7:s=7
   .subst h7;refine p (s':={D i with e:=grow (D i).e w G,f:=G,b:=f w}) H (hT▸.mk f w) (h.o B (λe=>ω) rfl rfl rfl (λb b1 b2 _=>e2.a b b1 b2) e2.size e2.d (λ⟨st,sm,hl⟩=>⟨st,sm,?_⟩) (λb C=>C) ?_ ?_ ?_ (λ_ e=>?_) (λ_ e=>?_) λc m _=>?_);exact(e2.a Wg (h.b.a Wg (.inr (.inr a0))) (h.b.c i B Wg a0).1).trans hl;grind;refine h.z.r h.b hb B e2.size (λb C=>?_) (λk e=>by grind[upd_ne]) ?_;simp only[upd_same]at C;exact C.imp id λx=>x.1;simp only[upd_same];exact oO (X:=oK) (λb C=>C.elim (λx=>yg (h.b.d i B b (.inl x)) e2.size) λx=>x.2) (λb C=>yg (h.b.d i B b (.inr C)) e2.size) e2.c λe j=>j.elim;exact deafBehind_still (λe j=>zG (AN e2 e j)) _;grind;grind
    refine((h.c.c m).block λ_=>?_).d (iQ _ rfl);exact e2.a Wg (h.b.a Wg (.inr (.inr a0))) (h.b.c i B Wg a0).1
   obtain⟨rfl,rfl⟩:=e3 h7;rw[Pm.bH _ rfl]at X;refine p H (s':={D i with a:=s,c:=dd,f:=G,b:=f G}) (hT▸.mk f G) (h.m hb B (.refl Wg G) id ς ς ω (by rw[n];rfl) X λc m _=>(h.c.c m).d (iQ _ hs.symm))
  |@rel f F E r q hQ A u=>
   let⟨I,H⟩:=A w Y;refine p (s':={D i with a:=6,c:=0,f:=w,b:=f w}) H (hT▸.mk f w) (h.o B (λe=>ω) rfl rfl rfl (λ_ _ _ _=>rfl) Ϫ rfl id (λb C=>.inl C) (u w I w _ Y H) ?_ ?_ (λ_ _=>?_) (λ_ _ r c2=>hQ r (Y.e c2)) λc m _=>(h.c.c m).f B ω _ (.inl rfl))
   .refine h.z.r h.b hb B Ϫ (λb C=>?_) (λk e=>by grind[upd_ne]) λop a3=>?_;grind[upd_same];obtain⟨e,j,rfl⟩:=Conc.mem_ofEvents a3;simp at j;subst j;refine⟨rfl,λx hx=>?_,?_,by simp[mk,MemAct.ofEvent]⟩;simp[mk,MemAct.ofEvent,MemAct.touch?]at hx;exact h.b.a Wg (.inr (.inr a0))
   rw[n];rfl;refine⟨t.size,(RelBy.new (a:=stA Wg) (k:=i+1) (by rw[h.f i B,n]) x.frame.fn x.frame.place),λk y hk _ hy=>?_⟩;let⟨z,hz,_⟩:=touch_of hy;grind[ofEvents_eq]
  |@dis f F E r q A u=>
   let⟨I,H⟩:=A w Y;refine p H (s':={D i with a:=5,c:=1,f:=w,b:=f w}) (hT▸.mk f w) (h.m hb B (.refl Wg w) id (by intro e j;simp at j;subst j;exact .inl rfl) (by intro M e j;match M,j with|0,j=>simp at j;subst j;exact .inl rfl|M+1,j=>grind) ω (by rw[n];rfl) (u w I w _ Y H) λc m _=>(h.c.c m).f B ω _ (.inr rfl))
  |@add f F E r q A c5 b8=>
   have a1:∀e∈#[rd (stA Wg),wr (stA Wg)],Bk Wg e:=by intro e j;simp at j;rcases j with rfl|rfl<;>exact .inr (.inr ⟨_,_,rfl,rfl⟩)
   have b0:∀M e,#[rd (stA Wg),wr (stA Wg)][M]?=some e->(MemAct.ofEvent e).touch?=none\/0<deafBehind (D i).c (#[rd (stA Wg),wr (stA Wg)].extract 0 M):=by
    rw[n];intro M e j;match M,j with
    |0,_=>exact .inr (by simp[deafBehind])
    |1,_=>exact .inr (by simp[deafBehind,rd])
    |M+2,j=>grind
   have d6:oM (D i)=1:=by simp[oM,hs]
   have d0:Vc (base+Qs.length) D<=Qs.length:=ϕ (ue (D:=D) (base+Qs.length) base ω h.n);have d7:1<=Vc (base+Qs.length) D:=by have:=ConcN.le_sumTo (f:=λa=>oM (D a)) B;simp only[Vc];lia
   have d1:=h.l;have a6:∀(v wt:Nat),wt<=1->WgAt ty Wg w ((v+1)*KK+wt) 0->v<2147483647->(¬(v=0/\wt=1)->∀c,(c=blk\/c=false)->∀T o,MD ty Wg (base+Qs.length) (upd D i {D i with a:=1,c:=1,f:=o,b:=T}) (w.setCell (stA Wg) (.int .u64 (v*KK+wt))) tag c)->
    ((v=0/\wt=1)->∀c,(c=blk\/c=false)->∀T o,MD ty Wg (base+Qs.length) (upd D i {D i with a:=4,c:=1,f:=o,b:=T}) (w.setCell (stA Wg) (.int .u64 (v*KK+wt))) tag c)->
    ∃c s' Q G S,runT P (crowd gs w sl) (i+1)=(.next (crowd Q G sl),S)/\dD.a s'.b (D i).b/\kA P ty Wg Qs tag c O K g wst W base (upd D i s') Q G (t++S):=by
    intro v wt a9 l hv c6 b4;let⟨I,H⟩:=A w Y v wt a9 hv l;have hA:Aside Wg w (w.setCell (stA Wg) (.int .u64 (v*KK+wt))):=aside_setCell w (stA Wg) _;have hL:WgLive ty Wg w->WgLive ty Wg (w.setCell (stA Wg) (.int .u64 (v*KK+wt))):=λ_=>⟨_,_,l.setSt _⟩;by_cases N:v=0/\wt=1;exact p H (s':={D i with a:=4,c:=1,f:=w.setCell (stA Wg) (.int .u64 (v*KK+wt)),b:=f w}) (hT▸.mk f w) (h.m hb B hA hL a1 b0 ω (by rw[n];rfl) (c5 w I _ _ Y (by grind) H) λc m _=>b4 N c m _ _);exact p H (s':={D i with a:=1,c:=1,f:=w.setCell (stA Wg) (.int .u64 (v*KK+wt)),b:=f w}) (hT▸.mk f w) (h.m hb B hA hL a1 b0 ω (by rw[n];rfl) ((by grind)) λc m _=>c6 N c m _ _)
   have a4:∀(T:dD)(o:Δ)(s:Nat),s<=4->Vc (base+Qs.length) (upd D i {D i with a:=s,c:=1,f:=o,b:=T})+1=Vc (base+Qs.length) D:=by
    intro T o s d3;have:=CP (D:=D) {D i with a:=s,c:=1,f:=o,b:=T} B;have c0:oM {D i with a:=s,c:=1,f:=o,b:=T}=0:=by simp[oM];lia
    lia
   generalize a7:Vc (base+Qs.length) D=V at*;have d4:¬dK (base+Qs.length) D:=λhq=>ϕ (hq i B);have c1:tag.a<=1:=by cases tag<;>simp[nX.a]
   cases h.c with
   |free hq=>grind
   |opn h1 h2 h3 h4 h5=>
    rw[a7]at h3 h4 h5;refine a6 (V+tag.a-1) 0 ω (by grind) ω (λ_ c m T o=>?_) λe=>ω;have b7:=a4 T o 1 ω;have c8:c=false:=m.elim id id;subst c8;refine .opn h1 (iP _ ς h2) (λb e=>?_) (λvs e=>?_) ?_;grind;grind
    have:=h5.setSt (((V+tag.a-1:Nat):Int)*KK+(0:Nat));grind
   |reg h1 h2 h3=>
    rw[a7]at h2 h3;refine a6 (V-1) 1 ω (by grind) ω (λd5 c m T o=>?_) λj c m T o=>?_;have b7:=a4 T o 1 ω;refine .reg (iP _ ς h1) ω ?_;have:=h3.setSt (((V-1:Nat):Int)*KK+(1:Nat));grind;have b9:V=1:=ω;have hq:∀a,a<base+Qs.length->a≠i->(D a).a=1:=by have d8:=a4 T o 1 ω;have:=oL (D:=upd D i {D i with a:=1,c:=1,f:=o,b:=T}) (iP _ ς h1) ω;intro a ha e;have:=this a ha;rwa [upd_ne D _ e]at this
    refine .last i B (by grind[upd_same]) (λa ha e=>by grind[upd_ne]) ?_;rw[upd_same];have:=h3.setSt (((V-1:Nat):Int)*KK+(1:Nat));grind
   |last L h1 h2 h3 h4=>
    grind
   |sema hq _=>grind
   |fin _ hq _=>grind
  |@d2 f F E r q A u=>
   obtain⟨rfl,U,l⟩:=h.c.e B ω;rw[hs]at l;let⟨I,H⟩:=A w Y (ϰ l);refine p H (s':={D i with a:=3,c:=1,f:=w,b:=f w}) (hT▸.mk f w) (h.m hb B (.refl Wg w) id (by intro e j;simp at j;subst j;exact .inr (.inr ⟨_,_,rfl,rfl⟩)) (by rw[n];intro M e j;match M,j with|0,_=>exact .inr (by simp[deafBehind])|M+1,j=>simp at j) ω (by rw[n];rfl) (u w I w _ Y (ϰ l) H) λc m _=>?_);refine .last i B (by grind[upd_same]) (λa ha e=>upd_ne D _ e▸U a ha e) ?_;grind[upd_same]
  |@d3 f F E r q A u=>
   obtain⟨rfl,U,l⟩:=h.c.e B ω;rw[hs]at l;let⟨I,H⟩:=A w Y (ϰ l);refine p H (s':={D i with a:=2,c:=1,f:=w.setCell (stA Wg) (.int .u64 0),b:=f w}) (hT▸.mk f w) (h.m hb B (aside_setCell w (stA Wg) _) (λ_=>⟨_,_,l.setSt _⟩) (by intro e j;simp at j;subst j;exact .inr (.inr ⟨_,_,rfl,rfl⟩)) (by rw[n];intro M e j;match M,j with|0,_=>exact .inr (by simp[deafBehind])|M+1,j=>simp at j) ω (by rw[n];rfl) (u w I _ _ Y (by grind) H) λc m _=>?_);refine .last i B (by grind[upd_same]) (λa ha e=>by grind[upd_ne]) ?_;rw[upd_same];simpa using l.setSt 0
  |@d4 f F E r q c4 A u=>
   obtain⟨rfl,U,l⟩:=h.c.e B ω;rw[hs]at l;let⟨I,H,er⟩:=A w Y (by grind);refine p H (s':={D i with a:=1,c:=1,f:=w.setCell (smA Wg) (.int .u32 1),b:=f w}) (by rw[hT];exact .mk f w) (h.m hb B (aside_setCell w (smA Wg) _) (λ_=>⟨_,_,l.setSm _⟩) ?_ ?_ ω (by rw[n];simp[deafBehind,semEvents]) (u w I _ _ Y (by grind) H) λc m b5=>?_);intro e j;simp[semEvents]at j;rcases j with rfl|rfl|rfl|rfl;exact .inl rfl;exact .inr (.inr ⟨_,_,rfl,rfl⟩);exact .inr (.inr ⟨_,_,rfl,rfl⟩);exact .inr (.inl rfl)
   .rw[n];intro M e j;match M,j with
    |0,j=>simp[semEvents]at j;subst j;exact .inl rfl
    |1,_=>exact .inr (by simp[deafBehind,semEvents])
    |2,_=>exact .inr (by simp[deafBehind,semEvents])
    |3,j=>simp[semEvents]at j;subst j;exact .inl rfl
    |M+4,j=>simp[semEvents]at j
   obtain rfl:=b5 c4 er;refine .sema (λa ha=>?_) (by simpa using l.setSm 1);grind[upd_same,upd_ne]
  |@quit T d F E I es r q hm l u=>
   refine p (l w) (s':={D i with a:=1,c:=deafBehind dd es,f:=w,b:=T}) (by rw[hT];exact .mk (λ_=>T) w) (h.m hb B (.refl Wg w) id (λe j=>bk_of_mute (hm e j)) (λM e j=>(by grind[touch_mute])) ω (by rw[n]) (u w) λc m _=>(h.c.c m).d (iQ _ hs.symm))
  |fin hf=>grind
 ·
  have hs:=h.n i ω;obtain⟨T,hT⟩:∃T,(D i).b=T:=⟨_,rfl⟩;rw[hT]at R;rw[hs]at R;obtain⟨dd,n⟩:∃dd,(D i).c=dd:=⟨_,rfl⟩;rw[n]at R;cases R with
  |idle hc=>lia
  |@quit T d F E I es r q hm l u=>
   refine p (l w) (s':={D i with a:=1,c:=deafBehind dd es,f:=w,b:=T}) (by rw[hT];exact .mk (λ_=>T) w) (h.o B (λ_=>rfl) rfl rfl rfl (λ_ _ _ _=>rfl) Ϫ rfl id (λb C=>.inl C) (u w) ?_ (by rw[n]) (λe=>ω) (λe=>ω) λc m _=>(h.c.c m).d (iQ _ hs.symm));have ho:(λk=>(upd D i {D i with a:=1,c:=deafBehind dd es,f:=w,b:=T} k).e)=λk=>(D k).e:=by funext k;by_cases e:k=i;grind[upd_same];grind[upd_ne]
   rw[ho];refine h.z.w (g:=i+1) ω λop a3=>?_;obtain⟨e,j,rfl⟩:=Conc.mem_ofEvents a3;refine⟨rfl,touch_mute (hm e j),low_mute (hm e j) _,λa ha=>?_⟩;have:=loc_of_ofEvent ha;let⟨d2,wr,sy⟩:=e;simp only at this;subst this;have:=hm _ j;simp[Event.mute]at this
  |fin hf=>grind
end
variable {g':Ϛ}{j:Nat}
def CO(P:ϛ)(Post:Θ->Ξ)(m:Machine)(t:Trace):Prop:=
 ∃N last o w t',runNT P (N+1) m t=(.ended o w,t')/\runN P N m=.next last/\step P last=.ended o w/\Good P Post last o w t'
section
variable {P:ϛ}{Post:Θ->Ξ}{m m':Machine}{t ops:Trace}
theorem CO.a(b:stepT P m=(.next m',ops))(h:CO P Post m' (t++ops)):CO P Post m t:=
 let ⟨n,a,o,w,e,g,f,d,c⟩:=h
 ⟨_,a,o,w,e,by rwa [runNT_succ_next b],by rwa [runN_succ_next b],d,c⟩
theorem CO.b{o:Outcome}{w:Δ}(a:stepT P m=(.ended o w,ops))(h:Good P Post m o w (t++ops)):CO P Post m t:=
 ⟨0,m,o,w,_,by simp[runNT,a],rfl,by simp[step,a],h⟩
end
section
variable {P:ϛ}{ty:ϟ}{Post:Θ->Ξ}{Wg:Nat}{Qs:List bE}{tag:nX}{blk:Bool}{O K:ϑ}{g:Ϛ}{wst:Δ}{W:ϑ}{base:Nat}{D:Nat->WS}{gs:Array Ϛ}{w w':Δ}{t:Trace}
def kA.a1(h:kA P ty Wg Qs tag blk O K g wst W base D gs w t):∀x∈gs,Conc.awake x:=by
 intro x d k;let⟨i,a⟩:=Array.mem_iff_getElem?.1 d;cases i with
 |zero=>
  rw[h.p]at a;grind[u]
 |succ i=>
  let⟨y,c,f⟩:=h.wk i (by grind[size]:i<base+Qs.length);rw[a]at c;cases c;rcases f.b.1 with e|e<;>rw[e]<;>simp
def kA.s(h:kA P ty Wg Qs tag blk O K g wst W base D gs w t):∃(i:Nat)(x:Ϛ),gs[i]?=some x/\x.status=.running:=by
 cases d:blk;have:=h.p;grind[u];have e:=h.c;rw[d]at e;cases e with
 |reg _ c _=>
  let⟨i,k,l⟩:=jr c;let⟨x,a,b⟩:=h.wk i k;exact⟨_,x,a,b.b.2 ω⟩
 |last L f c _ _=>
  let⟨x,a,b⟩:=h.wk L f;exact⟨_,x,a,b.b.2 ω⟩
def iv(B:∀W base D gs w f t,kA P ty Wg Qs tag false O K g wst W base D gs w t->
 (∃z b,runT P (crowd gs w f) 0=(.next z,b)/\CO P Post z (t++b))\/
 (∃o G b,runT P (crowd gs w f) 0=(.ended o G,b)/\∀E A,Good P Post (crowd gs E A) o G (t++b))\/
 (∃v,runT P (crowd gs w f) 0=(.next (crowd v w f),#[])/\kA P ty Wg Qs tag true O K g wst W base D v w t)):∀(f:Option (Nat×Nat)),kA P ty Wg Qs tag blk O K g wst W base D gs w t->CO P Post (crowd gs w f) t:=by
 have I:∀l,Acc nu l->∀blk W base D gs w f t,(List.range' 0 (base+Qs.length)).map (λi=>(D i).b)=l->kA P ty Wg Qs tag blk O K g wst W base D gs w t->CO P Post (crowd gs w f) t:=by
  intro l y;induction y with
  |intro l _ Q=>
   have m:∀blk W base D gs w f t,(List.range' 0 (base+Qs.length)).map (λi=>(D i).b)=l->kA P ty Wg Qs tag blk O K g wst W base D gs w t->∀i x,gs[i+1]?=some x->x.status=.running->
    ∃z b,runT P (crowd gs w f) (i+1)=(.next z,b)/\CO P Post z (t++b):=by
    intro blk W base D gs w f t y h i x L F;have C:i<base+Qs.length:=by have:=(yk.1 L).1;rw[h.size]at this;lia
    obtain⟨M,S,v,G,b,r,s,R⟩:=uq h C L F f;refine⟨_,b,r,Q _ ?_ _ _ _ _ _ _ _ _ rfl R⟩;rw[<-y];exact nu.upd (i:=i) ω ω (by grind[upd_same]) (λk e=>by grind[upd_ne])
   have p:∀W base D gs w f t,(List.range' 0 (base+Qs.length)).map (λi=>(D i).b)=l->kA P ty Wg Qs tag true O K g wst W base D gs w t->CO P Post (crowd gs w f) t:=by
    intro W base D gs w f t y h;obtain⟨i,x,d,u,C,H,q⟩:=crowd_pick h.a1 h.s;cases i with
    |zero=>rw[h.p]at C;grind
    |succ i=>
     obtain⟨z,b,r,s⟩:=m _ _ _ _ _ _ u _ y (h.at d) i x C H;exact .a (q.trans r) s
   intro blk W base D gs w f t y h;cases N:blk with
   |true=>grind
   |false=>
    rw[N]at h;obtain⟨i,x,d,u,C,H,q⟩:=crowd_pick h.a1 h.s;cases i with
    |zero=>
     rcases B _ _ _ _ _ u _ (h.at d)with ⟨z,b,r,s⟩|⟨o,G,b,r,s⟩|⟨v,r,s⟩;exact .a (q.trans r) s;grind[CO.b];exact .a (q.trans r) ((by grind))
    |succ i=>
     obtain⟨z,b,r,s⟩:=m _ _ _ _ _ _ u _ y (h.at d) i x C H;grind[CO.a]
 grind[nu.a]
def aC.b{c:Nat}{b:List bE}{a:nX}{O K:ϑ}{g:Ϛ}{w:Δ}(h:aC P ty Post c b a O K g w):g.status=.running:=by induction h<;>assumption
def kA.a2(h:kA P ty Wg Qs tag false O K g wst W base D gs w t){c:nX}{G:ϑ}(s:g'.status=.running)(m:∀b,b<w.heap.size->¬O b->¬W b->w'.heap[b]?=w.heap[b]?)(i:w.heap.size<=w')(B:w'.eo=w.eo)(p:tag≠.free->WgLive ty Wg w->WgLive ty Wg w')(z:∀b,G b->O b\/(w<=b/\b<w'))(F:I6 0 G K W w' (MemOp.ofEvents 0 g.frame.fn g.frame.place es))(A:deafBehind tag.b es=c.b)(l:c=.free↔tag=.free)(o:MD ty Wg (base+Qs.length) D w' c false)(u:Qs.length+c.a<2147483648):kA P ty Wg Qs c false G K g' w' W base D ((gs.map (woken P g g' w')).setIfInBounds 0 g') w' (t++MemOp.ofEvents 0 g.frame.fn g.frame.place es):=by
 have S:=h.b;refine⟨get_map_set_same _ _ _ (by grind[size]),s,ς,.c _ _ _ _,by simp[h.size],λk f=>?_,λk E n=>?_,h.n,h.qs,λe=>h.k (l.1 e),λe=>h.y λN=>e (l.2 N),?_,h.z.s S i (λb a=>ν) F,?_,λk f=>?_,λk E n I=>?_,h.q,o,u⟩;let⟨y,L,v⟩:=h.wk k f;refine⟨y,?_,v⟩;rw[get_map_set _ _ _ _ ω,L,yp];unfold woken;split;rw[again_running w' v.b.1];rfl;refine(h.rely k E n).e ⟨λb a=>m b (S.d k n b a) (λx=>?_) λH=>?_,i,B,p λe=>by have:=h.k e;grind⟩;exact a.elim (S.e k n b x).1 (S.e k n b x).2;exact a.elim (S.c k n b H).1 (S.c k n b H).2
 .refine⟨λb a=>?_,λk f b a=>yg (S.d k f b a) i,λb a f=>?_,λb a=>⟨λx=>?_,(S.f b a).2⟩,S.c,λk f b a=>?_,S.h,S.l,S.m⟩
  .rcases a with a|a
   .rcases z b a with d|⟨_,d⟩;exact yg (S.a b (.inl d)) i;lia
   exact yg (S.a b (.inr a)) i
  rcases z b a with d|⟨d,_⟩;exact S.ok b d f;exact absurd (S.a b (.inr (.inl f))) (xl.2 d);rcases z b x with d|⟨d,_⟩;exact(S.f b a).1 d;exact absurd (S.a b (.inr (.inr a))) (xl.2 d);rcases z b a with d|⟨d,_⟩;exact S.e k f b d;exact⟨λC=>absurd (S.d k f b (.inl C)) (xl.2 d),λC=>absurd (S.d k f b (.inr C)) (xl.2 d)⟩
 grind[Deaf_own,h]
 rw[Deaf_other t ω _ g_of_ofEvents];exact h.f k f;let⟨r,M⟩:=h.rel k E n I;exact⟨r,M.b g_of_ofEvents ω⟩
def kA.e(h:kA P ty Wg Qs tag false O K g wst W base D gs w t){a:nX}(k:g'.status=.running)(m:tag≠.free)(l:a≠.free)(n:Aside Wg w w')(q:WgLive ty Wg w')(o:∀e∈es,Bk Wg e)(c:deafBehind tag.b es=a.b)(d:MD ty Wg (base+Qs.length) D w' a false)(i:Qs.length+a.a<2147483648):kA P ty Wg Qs a false O K g' w' W base D ((gs.map (woken P g g' w')).setIfInBounds 0 g') w' (t++MemOp.ofEvents 0 g.frame.fn g.frame.place es):=
 have f:=h.y m;h.a2 k (λb _ _ p=>n.block b λe=>p (e▸f)) (by rw[n.size];lia) (Pm.oV n.os n.output) (λ_ _=>q) (λb p=>.inl p)
  (C7 f (n.size▸h.b.a Wg (.inr (.inr f))) o) c ⟨λe=>absurd e l,λe=>absurd e m⟩ d i
def LR:∀e∈#[mk .disable],Bk Wg e:=by intro e a;simp at a;subst a;exact .inl rfl
def LS:∀e∈#[mk .enable],Bk Wg e:=by intro e a;simp at a;subst a;exact .inr (.inl rfl)
def Lk:∀e∈#[rd (stA Wg)],Bk Wg e:=by intro e a;simp at a;subst a;exact .inr (.inr ⟨_,_,rfl,rfl⟩)
def Ky:∀e∈#[rd (stA Wg),wr (stA Wg)],Bk Wg e:=by intro e a;simp at a;rcases a with rfl|rfl<;>exact .inr (.inr ⟨_,_,rfl,rfl⟩)
def LZ:∀e∈semEvents (smA Wg),Bk Wg e:=by intro e a;simp[semEvents]at a;rcases a with rfl|rfl|rfl|rfl;exact .inl rfl;exact .inr (.inr ⟨_,_,rfl,rfl⟩);exact .inr (.inr ⟨_,_,rfl,rfl⟩);exact .inr (.inl rfl)
def MD.a(h:MD ty Wg j D w tag blk)(c:tag.open):ij j D/\(∀b,tag=.an b->Vc j D<=b)/\(∀a,tag=.w2 a->Vc j D<=a/\1<=a)/\WgAt ty Wg w (((Vc j D+tag.a:Nat):Int)*KK) 0:=by
 cases h with
 |opn _ i f e k=>grind
 |fin d=>cases tag<;>first|exact d.elim|exact c.elim
 |_=>exact c.elim
def MD.b(h:MD ty Wg j D w tag blk)(a:tag.fin):dK j D/\WgAt ty Wg w 0 0:=by
 cases h with
 |fin _ d c=>grind
 |opn b=>cases tag<;>first|exact b.elim|exact a.elim
 |_=>exact a.elim
def kA.a3(h:kA P ty Wg Qs .go false O K g wst W base D gs w t){Q:bE}{p R:ϑ}{T:dD}{o:Ϛ}(F:g'.status=.running)(a0:Qs.length<2147483647)(A:∀b,p b->O b)(I:∀b,R b->O b\/K b)(a1:∀b,p b->¬R b)(hc:Wk P ty Wg Q R T 7 0 p o w){x y:MemOp}(U:x.g=0/\x.act=.go (base+Qs.length+1))(V:y.g=base+Qs.length+1/\y.act=.start):kA P ty Wg (Qs++[Q]) .sp false (λb=>O b/\¬p b/\¬R b) (λb=>K b\/R b) g' w W base (upd D (base+Qs.length) ⟨7,0,p,R,Q,w,T⟩) ((gs.setIfInBounds 0 g').push o) w (t++#[x,y]):=by
 have S:=h.b;have C:base+(Qs++[Q]).length=base+Qs.length+1:=by simp;lia
 have a2:(gs.setIfInBounds 0 g').size=base+Qs.length+1:=by simp[h.size]
 let⟨N,_,_,Y⟩:=h.c.a trivial;have s:∀G∈#[x,y],G.act≠.mark .disable/\G.act≠.mark .enable:=by intro G L;grind
 have m:∀k,k<base+Qs.length->upd D (base+Qs.length) ⟨7,0,p,R,Q,w,T⟩ k=D k:=λk i=>upd_ne D _ ω;rw[<-C]at U V;refine⟨?_,F,ς,.c _ _ _ _,ν,λk i=>?_,λk H Z=>?_,λk i=>?_,λk i=>?_,λe=>(by cases e),λ_=>h.y ς,?_,?_,?_,λk i=>?_,λk H Z v=>?_,λk H Z v=>?_,?_,by grind[nX.a]⟩;grind
 .by_cases e:k=base+Qs.length
  grind[upd_same]
  let⟨z,hz,B⟩:=h.wk k ω;grind
 .by_cases e:k=base+Qs.length
  grind[upd_same,Rely.c]
  rw[m k ω];exact h.rely k H ω
 rw[m k ω];exact h.n k i
 .by_cases e:k=Qs.length
  grind[upd_same]
  have B:k<Qs.length:=by simp at i;lia
  rw[m _ ω,y7 B];exact h.qs k B
 .have d:∀k b,(upd D (base+Qs.length) ⟨7,0,p,R,Q,w,T⟩ k).e b->(k≠base+Qs.length/\(D k).e b)\/(k=base+Qs.length/\p b):=λk b a=>by grind[upd_same,upd_ne]
  have n:∀k b,(upd D (base+Qs.length) ⟨7,0,p,R,Q,w,T⟩ k).h b->(k≠base+Qs.length/\(D k).h b)\/(k=base+Qs.length/\R b):=λk b a=>by grind[upd_same,upd_ne]
  have E:=λb a=>(I b a).elim (λx=>S.a b (.inl x)) λx=>S.a b (.inr (.inl x));have M:=λb a X=>(I b X).elim (S.f b a).1 (S.f b a).2;rw[C];refine⟨λb a=>?_,λk i b a=>?_,λb a i=>?_,λb a=>⟨λN=>(S.f b a).1 N.1,λi=>i.elim (S.f b a).2 (M b a)⟩,λk i b a=>⟨λc=>?_,λc=>?_⟩,λk i b a=>⟨λc=>?_,λc=>?_⟩,λk i b a c=>?_,λk l i hl s b c f=>?_,λk l i hl b c f=>?_⟩;rcases a with a|a|a;exact S.a b (.inl a.1);exact a.elim (λx=>S.a b (.inr (.inl x))) (E b);exact S.a b (.inr (.inr a))
  .rcases a with a|a;rcases d k b a with ⟨e,a⟩|⟨_,a⟩;exact S.d k ω b (.inl a);exact S.a b (.inl (A b a));rcases n k b a with ⟨e,a⟩|⟨_,a⟩;exact S.d k ω b (.inr a);grind
  exact i.elim (S.ok b a.1) a.2.2;rcases d k b c with ⟨e,c⟩|⟨_,c⟩;exact(S.c k ω b a).1 c;exact(S.f b a).1 (A b c);rcases n k b c with ⟨e,c⟩|⟨_,c⟩;exact(S.c k ω b a).2 c;grind;rcases d k b c with ⟨e,c⟩|⟨_,c⟩;exact(S.e k ω b a.1).1 c;grind;rcases n k b c with ⟨e,c⟩|⟨_,c⟩;exact(S.e k ω b a.1).2 c;grind
  .rcases d k b c with ⟨e,c⟩|⟨_,c⟩;rcases a with a|a;exact S.h k ω b a c;exact(I b a).elim (λx=>(S.e k ω b x).1 c) λx=>S.h k ω b x c;rcases a with a|a;exact S.ok b (A b c) a;grind
  .rcases d k b c with ⟨e,c⟩|⟨e,c⟩;rcases d l b f with ⟨u,f⟩|⟨u,f⟩;exact S.l k l ω ω s b c f;exact(S.e k ω b (A b f)).1 c;rcases d l b f with ⟨u,f⟩|⟨u,f⟩;exact(S.e l ω b (A b c)).1 f;lia
  rcases d k b c with ⟨e,c⟩|⟨e,c⟩;rcases n l b f with ⟨u,f⟩|⟨u,f⟩;exact S.m k l ω ω b c f;exact(I b f).elim (λx=>(S.e k ω b x).1 c) λx=>S.h k ω b x c;rcases n l b f with ⟨u,f⟩|⟨u,f⟩;exact(S.e l ω b (A b c)).2 f;grind
 rw[C];rw[C]at U V;exact h.z.v ω U V h.h A I (by grind[upd_same]) (by grind[upd_same]) (λk e=>by grind[upd_ne]) (λk e=>by grind[upd_ne]);rw[ConcN.Deaf_still t 0 _ s];exact h.h;rw[ConcN.Deaf_still t _ _ s];by_cases e:k=base+Qs.length;subst e;rw[upd_same];exact h.z.b _ ω;rw[m k ω];exact h.f k ω
 .by_cases e:k=base+Qs.length
  grind[upd_same]
  rw[m k ω]at v;let⟨r,X⟩:=h.rel k H ω v;refine⟨r,?_⟩;rw[(by grind:t++#[x,y]=(t++#[x])++#[y])];exact(X.b (g:=0) (λG L=>ν) ω).b (g:=base+(Qs++[Q]).length) (λG L=>ν) ω
 .by_cases e:k=base+Qs.length
  grind[upd_same]
  rw[m k ω]at v|-;exact h.q k H ω v
 have eV:Vc (base+Qs.length+1) (upd D (base+Qs.length) ⟨7,0,p,R,Q,w,T⟩)=Vc (base+Qs.length) D+1:=by simp only[Vc,sumTo,upd_same];rw[sumTo_upd_out D _ oM Ϫ];rfl
 rw[C];refine .opn trivial (λk i=>?_) ς ς (by rwa [eV]);by_cases e:k=base+Qs.length;grind[upd_same];rw[m k ω];exact N k ω
def kA.a0(h:kA P ty Wg Qs .aq false O K g wst W base D gs w t)(m:g'.status=.running):kA P ty Wg [] .free false (λb=>O b\/∃i,i<Qs.length/\(D (base+i)).e b) K g' w W (base+Qs.length) (λi=>{D i with e:=λ_=>False,h:=λ_=>False}) ((gs.map (woken P g g' w)).setIfInBounds 0 g') w
  (t++MemOp.ofEvents 0 g.frame.fn g.frame.place #[ConcR.mk (.acquire (stA Wg))]):=by
 have S:=h.b;let⟨p,B⟩:=h.c.b trivial;have u:MemOp.ofEvents 0 g.frame.fn g.frame.place #[ConcR.mk (.acquire (stA Wg))]=#[{g:=0,fn:=g.frame.fn,pos:=g.frame.place,act:=.mark (.acquire (stA Wg))}]:=by rw[ofEvents_eq];simp[ofEvent_mk]
 refine⟨get_map_set_same _ _ _ (by grind[size]),m,ς,.c _ _ _ _,by simp[h.size],λk c=>?_,λk q d=>by grind,λk c=>p k ω,λk c=>ν,λ_=>rfl,λe=>absurd rfl e,?_,?_,?_,λk c=>?_,λk q d=>ν,λk q d=>by grind,.free λk c=>p k ω,by simp[nX.a]⟩
 .let⟨y,A,o⟩:=h.wk k ω;have f:=p k ω;refine⟨y,?_,?_⟩;rw[get_map_set _ _ _ _ ω,A,yp];unfold woken;split;rw[again_running w o.b.1];rfl;have:=o.e f ty Wg (D k).q (λ_=>False) (λ_=>False) (D k).f;rwa [f]
 .refine⟨λb a=>?_,λk c b a=>ν,λb a c=>?_,λb a=>⟨λn=>?_,(S.f b a).2⟩,λk c b a=>⟨id,id⟩,λk c b a=>⟨id,id⟩,λk c b a=>id,λk l c z x b a=>a.elim,λk l c z b a=>a.elim⟩;rcases a with (a|⟨i,s,a⟩)|a;exact S.a b (.inl a);exact S.d _ ω b (.inl a);exact S.a b (.inr a);rcases a with a|⟨i,s,a⟩;exact S.ok b a c;exact S.h _ ω b c a;rcases n with n|⟨i,s,n⟩;exact(S.f b a).1 n;exact(S.c _ ω b a).1 n
 rw[u];refine h.z.p (λk q d=>h.rel k q d (by rw[p k d];lia)) h.h ⟨rfl,rfl⟩ (S.a Wg (.inr (.inr (h.y ς)))) (λb a v=>?_) (λ_ _=>id) λ_ _=>id;rcases a with a|⟨i,s,a⟩;exact(S.f b v).1 a;exact(S.c _ ω b v).1 a;rw[Deaf_own,h.h];rfl;rw[Deaf_other t ω _ g_of_ofEvents];exact h.f k ω
def kA.enter{d:Nat}(h:kA P ty d [] .free blk O K g wst W base D gs w t)(i:O Wg)(s:WgAt ty Wg wst 0 0):kA P ty Wg [] .sp blk (λb=>O b/\b≠Wg) K g wst (λb=>W b\/b=Wg) base D gs w t:=by
 have S:=h.b;have l:WgAt ty Wg w 0 0:=(h.a.a Wg (.inl i)).trans s;have n:dK (base+0) D:=by
  have:=h.c;cases this with
  |free n=>exact n
  |opn f=>exact f.elim
  |fin f=>omega
 have v:blk=false:=by have:=h.c;cases this<;>rfl
 have u:Vc (base+0) D=0:=ϕ (ue (base+0) base ω h.n);refine⟨h.p,h.u,h.v,{h.a with a:=λb a=>h.a.a b ν,d:=λ_ _=>⟨0,0,l⟩},h.size,λk c=>?_,λk q m=>by grind,h.n,h.qs,λe=>(by cases e),λ_=>.inr rfl,?_,?_,h.h,h.f,λk q m=>ν,λk q m=>by grind,?_,by simp[nX.a]⟩;let⟨y,r,o⟩:=h.wk k c;have f:=h.n k ω;refine⟨y,r,?_⟩;have:=o.e f ty Wg (D k).q (D k).h (D k).e (D k).f;rwa [f]
 .refine⟨λb a=>?_,S.d,λb a=>S.ok b a.1,λb a=>⟨λx=>?_,λx=>?_⟩,λk c b a=>?_,λk c b a=>S.e k c b a.1,S.h,S.l,S.m⟩;rcases a with a|a|a|rfl;exact S.a b (.inl a.1);exact S.a b (.inr (.inl a));exact S.a b (.inr (.inr a));exact S.a _ (.inl i)
  .rcases a with a|rfl;exact(S.f b a).1 x.1;lia
  rcases a with a|rfl;exact(S.f b a).2 x;exact S.ok _ i x;rcases a with a|rfl;exact S.c k c b a;exact S.e k c _ i
 exact h.z.enter i;subst v;exact .opn trivial (λk c=>.inr (.inr (.inr (n k c)))) ς ς (by grind[nX.a])
end
variable {w:Δ}
section
variable{P:ϛ}{ty:ϟ}{Post:Θ->Ξ}{Wg:Nat}{Qs:List bE}{tag:nX}{O K:ϑ}{g:Ϛ}{wst:Δ}
theorem kA.d{W:ϑ}{a:Nat}{D:Nat->WS}{b:Array Ϛ}{t:Trace}(h:kA P ty Wg Qs tag false O K g wst W a D b w t):b[0]?=some g:=ϰ h.p
def C6(h:aC P ty Post Wg Qs tag O K g wst):∀{blk:Bool}{W:ϑ}{base:Nat}{D:Nat->WS}{gs:Array Ϛ}{w:Δ}(d:Option (Nat×Nat)){t:Trace},
 kA P ty Wg Qs tag blk O K g wst W base D gs w t->CO P Post (crowd gs w d) t:=by
 induction h with
 |@idle Wg Qs tag O K g wst o j m A=>
  intro blk W base D gs w d t h;refine iv (λW base D gs w d t h=>.inl ?_) d h;obtain⟨l,w',V,f,F⟩:=j w h.a;have a6:=λhf=>F.a Wg (h.b.a Wg (.inr (.inr (h.y hf)))) (h.b.f Wg (h.y hf)).1;refine⟨_,_,runT_crowd_go h.d (by simpa using f),A w l w' V h.a f d (h.a2 (m w l w' V h.a f).b (λb G S _=>F.a b G S) F.size F.d (λhf⟨st,sm,hl⟩=>⟨st,sm,(a6 hf).trans hl⟩) (λb B=>B) ?_ ?_ .rfl (h.c.block a6) h.l)⟩;exact oO (λb B=>B.elim (λx=>yg (h.b.a b (.inl x)) F.size) λx=>x.2) (λb B=>yg (h.b.a b (.inr (.inl B))) F.size) F.c λe⟨hf,a,ha,H⟩=>⟨rfl,a,ha▸h.y hf,ha▸yg (h.b.a Wg (.inr (.inr (h.y hf)))) F.size,H⟩;refine deafBehind_still (λe he=>?_) _;rcases F.c e he with H|⟨_,a,_,H|H⟩;exact zG H;grind;grind
 |@fin Wg O K g wst o j=>
  intro blk W base D gs w d t h;refine iv (λW base D gs w d t h=>.inr (.inl ?_)) d h;obtain⟨v,V,f,F,e3⟩:=j w h.a;have a5:=h.z.s (u:=MemOp.ofEvents 0 g.frame.fn g.frame.place V) h.b Ϫ (λb B=>.inl B) (oO (X:=λ_=>False) (λb B=>h.b.a b (.inl B)) (λb B=>h.b.a b (.inr (.inl B))) (λe he=>.inl (F e he)) λ_ x=>x.elim);have I:dK (base+([]:List bE).length) D:=by
   have:=h.c;cases this with
   |free I=>exact I
   |opn G=>exact G.elim
   |fin G=>omega
  have a2:∀i x,gs[i]?=some x->i≠0->∃n,QuitsD P n (D (i-1)).c x/\i-1<base+([]:List bE).length:=by
   intro i x H a7;obtain⟨k,rfl⟩:∃k,i=k+1:=⟨i-1,ω⟩;have z:k<base+([]:List bE).length:=by have:=(yk.1 H).1;rw[h.size]at this;lia
   obtain⟨y,hy,hk⟩:=h.wk k z;rw[H]at hy;cases hy;obtain⟨n,X⟩:=hk.h (I k z);exact⟨n,X,z⟩
  refine⟨_,_,_,(by grind[runT_many_ended,kA.d]),λc0 b3=>⟨v,rfl,e3,a5.c,λi l hg a4 hc=>?_,⟨λx H=>?_,rfl⟩,λi x H a7=>?_⟩⟩;exact(a5.h i l hg a4 hc).resolve_right λ⟨k,k1,k2,_⟩=>ν;obtain⟨i,Z⟩:=Kp.1 H;rw[List.getElem?_drop]at Z;obtain⟨n,X,_⟩:=a2 (1+i) x (by simpa[crowd]using Z) ω;exact⟨n,X.leaves⟩;obtain⟨n,X,z⟩:=a2 i x H a7;refine⟨n,?_⟩;have e:(t++MemOp.ofEvents 0 g.frame.fn g.frame.place V).deaf i (t++MemOp.ofEvents 0 g.frame.fn g.frame.place V).size=(D (i-1)).c:=by have:=Deaf_other t (g:=i) (g':=0) ω _ (g_of_ofEvents (fn:=g.frame.fn) (pos:=g.frame.place) (es:=V));have S:=h.f (i-1) z;rw[show i-1+1=i by lia]at S;rwa [S]at this
  show x.endsWith P _ n _=some 0;rw[e];exact X.hears _
 |@enter b8 Wg O K g wst hO hW m A=>
  intro blk W base D gs w d t h;exact A d (h.enter hO hW)
 |@kd Wg Qs O K g wst o j m A=>
  intro blk W base D gs w d t h;refine iv (λW base D gs w d t h=>.inl ?_) d h;obtain⟨l,f⟩:=j w h.a;obtain⟨E,_,_,c⟩:=h.c.a trivial;refine⟨_,_,runT_crowd_go (P:=P) (sl:=d) (i:=0) h.d (ϰ f),A w l w _ h.a f d (h.e (m w l w _ h.a f).b ς ς (.refl Wg w) ⟨_,_,c⟩ LR rfl (.opn trivial E ς ς c) h.l)⟩
 |@add Wg Qs O K g wst o U j m A=>
  intro blk W base D gs w d t h;refine iv (λW base D gs w d t h=>.inl ?_) d h;obtain⟨E,_,_,c⟩:=h.c.a trivial;have N:Vc (base+Qs.length) D<=Qs.length:=ϕ (ue (D:=D) (base+Qs.length) base ω h.n);simp at c;obtain⟨l,f⟩:=j w h.a _ N c;refine⟨_,_,runT_crowd_go (P:=P) (sl:=d) (i:=0) h.d (ϰ f),A w l _ _ _ h.a N c f d (h.e (m w l _ _ _ h.a N c f).b ς ς (aside_setCell w (stA Wg) _) ⟨_,_,c.setSt _⟩ Ky rfl (.opn trivial E ς ς ?_) (by grind[nX.a]))⟩;have:=c.setSt ((((Vc (base+Qs.length) D:Nat):Int)+1)*KK);grind[nX.a]
 |@en Wg Qs O K g wst o j m A=>
  intro blk W base D gs w d t h;refine iv (λW base D gs w d t h=>.inl ?_) d h;obtain⟨l,f⟩:=j w h.a;obtain⟨E,_,_,c⟩:=h.c.a trivial;refine⟨_,_,runT_crowd_go (P:=P) (sl:=d) (i:=0) h.d (ϰ f),A w l w _ h.a f d (h.e (m w l w _ h.a f).b ς ς (.refl Wg w) ⟨_,_,c⟩ LS rfl (.opn trivial E ς ς c) h.l)⟩
 |@go Wg Qs O K g wst Q Bs R o U hB hR b6 j hc m A=>
  intro blk W base D gs w d t h;refine iv (λW base D gs w d t h=>.inl ?_) d h;obtain⟨l,u,f⟩:=j w h.a;obtain⟨T,hT⟩:=hc w l u w _ h.a f;refine⟨_,_,(runT_crowd_spawn (P:=P) (sl:=d) (i:=0) h.d (by simpa using f)),?_⟩;have F:t++((MemOp.ofEvents 0 g.frame.fn g.frame.place #[]).push {g:=0,fn:=g.frame.fn,pos:=g.frame.place,act:=.go gs.size} |>.push {g:=gs.size,fn:=u.frame.fn,pos:=g.frame.place,act:=.start})=t++#[{g:=0,fn:=g.frame.fn,pos:=g.frame.place,act:=.go gs.size},{g:=gs.size,fn:=u.frame.fn,pos:=g.frame.place,act:=.start}]:=by rw[ofEvents_eq];simp
  rw[F];exact A w l u w _ h.a f d (h.a3 (m w l u w _ h.a f).b U hB hR b6 hT (x:={g:=0,fn:=g.frame.fn,pos:=g.frame.place,act:=.go gs.size}) (y:={g:=gs.size,fn:=u.frame.fn,pos:=g.frame.place,act:=.start}) ⟨rfl,by rw[h.size]⟩ ⟨h.size,rfl⟩)
 |@wd Wg Qs O K g wst o j m A=>
  intro blk W base D gs w d t h;refine iv (λW base D gs w d t h=>.inl ?_) d h;obtain⟨l,f⟩:=j w h.a;obtain⟨E,_,_,c⟩:=h.c.a trivial;have N:Vc (base+Qs.length) D<=Qs.length:=ϕ (ue (D:=D) (base+Qs.length) base ω h.n);refine⟨_,_,runT_crowd_go (P:=P) (sl:=d) (i:=0) h.d (ϰ f),A w l w _ h.a f d (h.e (m w l w _ h.a f).b ς ς (.refl Wg w) ⟨_,_,c⟩ LR rfl (.opn trivial E (λb e=>ν) ς c) h.l)⟩
 |@ld Wg b Qs O K g wst o j h0 G b7 b4=>
  intro blk W base D gs w d t h;refine iv (λW base D gs w d t h=>.inl ?_) d h;obtain⟨E,B,_,c⟩:=h.c.a trivial;have N:=B b rfl;simp only[nX.a,GV]at c;obtain⟨l,f⟩:=j w h.a _ N c;rcases Lg (Vc (base+Qs.length) D)with hz|hz;rw[hz]at c;refine⟨_,_,runT_crowd_go (P:=P) (sl:=d) (i:=0) h.d (ϰ f),b7 w l w _ h.a c f d (h.e (h0 w l w _ h.a c f).b ς ς (.refl Wg w) ⟨_,_,c⟩ Lk rfl (.fin trivial (oL E hz) (ϰ c)) (by have:=h.l;grind[nX.a]))⟩;refine⟨_,_,runT_crowd_go (P:=P) (sl:=d) (i:=0) h.d (by simpa using f),b4 w l w _ _ h.a hz N c f d (h.e (G w l w _ _ h.a hz N c f).b ς ς (.refl Wg w) ⟨_,_,c⟩ Lk rfl (.opn trivial E ς (λvs e=>ν) (by grind[nX.a])) (by have:=h.l;grind[nX.a]))⟩
 |@cas Wg vs Qs O K g wst o b0 Y h3 ha b9 b1=>
  intro blk W base D gs w d t h;refine iv (λW base D gs w d t h=>.inl ?_) d h;obtain⟨E,_,b2,c⟩:=h.c.a trivial;obtain⟨N,c2⟩:=b2 vs rfl;simp at c;have M:=h.l;simp only[nX.a,GV]at M;rcases Fs (Vc (base+Qs.length) D) vs with z|c1;obtain⟨l,f⟩:=Y w h.a _ z c;refine⟨_,_,runT_crowd_go (P:=P) (sl:=d) (i:=0) h.d (by simpa using f),b1 w l w _ _ h.a z c f d (h.e (ha w l w _ _ h.a z c f).b ς ς (.refl Wg w) ⟨_,_,c⟩ Lk rfl (.opn trivial E (λb e=>ν) ς (by simpa[nX.a]using c)) (by simpa[nX.a]using M))⟩;have e:Vc (base+Qs.length) D=vs:=ω;rw[e]at c;obtain⟨l,f⟩:=b0 w h.a c;refine⟨_,_,runT_crowd_go (P:=P) (sl:=d) (i:=0) h.d (by simpa using f),b9 w l _ _ h.a c f d (h.e (h3 w l _ _ h.a c f).b ς ς (aside_setCell w (stA Wg) _) ⟨_,_,c.setSt _⟩ Ky rfl (.reg E ω (by rw[e];exact c.setSt _)) (by simpa[nX.a]using M))⟩
 |@sem Wg Qs O K g wst o a1 hblk j m A=>
  intro blk W base D gs w d t h;refine iv (λW base D gs w d t h=>?_) d h;have C:∀st,WgAt ty Wg w st 0->MD ty Wg (base+Qs.length) D w .w3 true->∃a0,runT P (crowd gs w d) 0=(.next (crowd a0 w d),#[])/\kA P ty Wg Qs .w3 true O K g wst W base D a0 w t:=by intro st c hm;have hr:=runT_crowd_go (P:=P) (sl:=d) (i:=0) h.d (by simpa using (hblk w h.a st c));rw[(by rw[ofEvents_eq];simp:MemOp.ofEvents 0 g.frame.fn g.frame.place #[]=#[])]at hr;refine⟨_,hr,{h with p:=?_,v:=λ_=>a1,size:=by simp[h.size],wk:=λk hk=>?_,c:=hm}⟩;rw[get_map_set_same _ _ _ (by rw[h.size];lia)];rfl;obtain⟨y,hy,b5⟩:=h.wk k hk;refine⟨y,?_,b5⟩;rw[get_map_set _ _ _ _ ω,hy,yp];unfold woken;simp
  cases h.c with
  |opn G=>exact G.elim
  |fin G=>exact G.elim
  |reg G S h3=>exact .inr (.inr (C _ h3 (.reg G S h3)))
  |last L G S h3 h4=>exact .inr (.inr (C _ h4 (.last L G S h3 h4)))
  |sema I c=>
   obtain⟨l,f⟩:=j w h.a c;exact .inl ⟨_,_,runT_crowd_go (P:=P) (sl:=d) (i:=0) h.d (by simpa using f),A w l _ _ h.a c f d (h.e (m w l _ _ h.a c f).b ς ς (aside_setCell w (smA Wg) _) ⟨_,_,c.setSm _⟩ LZ (by simp[deafBehind,semEvents,nX.b]) (.fin trivial I (by simpa using c.setSm 0)) h.l)⟩
 |@l4 Wg Qs O K g wst o j m A=>
  intro blk W base D gs w d t h;refine iv (λW base D gs w d t h=>.inl ?_) d h;obtain⟨I,c⟩:=h.c.b trivial;obtain⟨l,f⟩:=j w h.a c;exact⟨_,_,runT_crowd_go (P:=P) (sl:=d) (i:=0) h.d (by simpa using f),A w l _ _ h.a c f d (h.e (m w l _ _ h.a c f).b ς ς (.refl Wg w) ⟨_,_,c⟩ Lk rfl (.fin trivial I c) h.l)⟩
 |@ke Wg Qs O K g wst o j m A=>
  intro blk W base D gs w d t h;refine iv (λW base D gs w d t h=>.inl ?_) d h;obtain⟨I,c⟩:=h.c.b trivial;obtain⟨l,f⟩:=j w h.a;exact⟨_,_,runT_crowd_go (P:=P) (sl:=d) (i:=0) h.d (by simpa using f),A w l _ _ h.a f d (h.e (m w l _ _ h.a f).b ς ς (.refl Wg w) ⟨_,_,c⟩ LS rfl (.fin trivial I c) h.l)⟩
 |@aq Wg Qs O K g wst o j m A=>
  intro blk W base D gs w d t h;refine iv (λW base D gs w d t h=>.inl ?_) d h;obtain⟨I,c⟩:=h.c.b trivial;obtain⟨l,f⟩:=j w h.a;have hQ:∀(i:Nat)(Q:bE),Qs[i]?=some Q->Q ((D (base+i)).e) w:=λi Q Z=>by have z:i<Qs.length:=(ym.1 Z).1;have:=h.qs i z;rw[Z]at this;injection this with this;rw[this];exact h.q _ ω ω (by rw[I _ ω];lia) w (h.rely _ ω ω)
  have hD:∀i,i<Qs.length->∀b,(D (base+i)).e b->¬O b/\¬K b/\b<w:=λi Z b B=>
   ⟨λE=>(h.b.e _ ω b E).1 B,λhk=>h.b.h _ ω b hk B,h.b.d _ ω b (.inl B)⟩
  have a3:∀i k,i<Qs.length->k<Qs.length->i≠k->∀b,(D (base+i)).e b->¬(D (base+k)).e b:=λi k Z hk a4 b B=>h.b.l _ _ ω ω ω b B;exact⟨_,_,runT_crowd_go (P:=P) (sl:=d) (i:=0) h.d (by simpa using f),A w l w _ (λi=>(D (base+i)).e) h.a hQ hD a3 f d (h.a0 (m w l w _ (λi=>(D (base+i)).e) h.a hQ hD a3 f).b)⟩
def xq{O K:ϑ}{a:Ϛ}(h:aC P ty Post 0 [] .free O K a w)(t:∀b,O b->b<w)(u:∀b,K b->b<w)(n:∀b,O b->¬K b):CO P Post (solo a w) #[]:=by
 have c:∀(i:Nat)(x:Touch),touchAt #[] i=some x->False:=λi x f=>by simp[touchAt,Trace.act?]at f
 refine C6 h (blk:=false) (W:=λ_=>False) (base:=0) (D:=λ_=>⟨1,0,λ_=>False,λ_=>False,λ_ _=>True,w,.leaf⟩) none ?_;refine⟨rfl,h.b,ς,.c _ _ _ _,rfl,λi d=>ν,λi _ d=>by simp at d,λi d=>ω,λi d=>ν,λ_=>rfl,λe=>absurd rfl e,?_,?_,rfl,λi d=>ν,λi _ d=>ν,λi _ d=>by simp at d,.free λi d=>ς,by simp[nX.a]⟩;exact⟨λb o=>ν,λi d=>ς,n,λb o=>o.elim,λi d=>ς,λi d=>ς,λi d=>ς,λi k d=>ς,λi k d=>ς⟩;exact⟨λj=>ConcN.noRace_nil j,λq m=>by simp at m,λl _ i x f _=>(c i x f).elim,λl _ i x f _ _=>(c i x f).elim,λi d=>by simp at d,λi d=>by simp at d,λi x f _ _=>(c i x f).elim,λk _ s=>by simp at s,λi x f _=>(c i x f).elim,λi g r=>by simp[Trace.g?]at r,λk _=>(λk=>rfl) k,λq m=>ν⟩
end
open Go.ConcR (DC0)
variable {wL:Δ}{n:Nat}
def RO(ty:ϟ)(Wg:Nat)(w wL:Δ):Prop:=WgLive ty Wg w->WgLive ty Wg wL
def aa{a:ϟ}{b:Nat}{w:Δ}(h:WgLive a b w)(r:RO a b w wL):WgLive a b wL:=r h
def RT(_ _:Δ):Prop:=True
def RO.a(a:ϟ)(b:Nat)(w:Δ):RO a b w w:=id
section
variable (P:ϛ)(ty:ϟ)(Wg:Nat)(Fin:Ϛ->Ξ)
def BE(g:Ϛ)(w:Δ):Prop:=g.status=.running/\∃g',stepG P true g w=.go g' w #[mk .enable]/\∃m,Goes P true (RO ty Wg) DC0 Fin m g' w
def BR(g:Ϛ)(w:Δ):Prop:=g.status=.running/\∃g',stepG P true g w=.go g' w #[mk (.read (smA Wg))]/\∃m,Goes P true (RO ty Wg) DC0 (BE P ty Wg Fin) m g' w
def BA(g:Ϛ)(w:Δ):Prop:=g.status=.running/\∀v:Nat,v<2147483647->WgAt ty Wg w (v*KK) 0->
 ∃g',stepG P true g w=.go g' (w.setCell (stA Wg) (.int .u64 ((v+1)*KK))) #[rd (stA Wg),wr (stA Wg)]/\
   (v=0->∃m,Goes P true (RO ty Wg) DC0 (BR P ty Wg Fin) m g' (w.setCell (stA Wg) (.int .u64 ((v+1)*KK))))/\(v≠0->∃m,Goes P true (RO ty Wg) DC0 (BE P ty Wg Fin) m g' (w.setCell (stA Wg) (.int .u64 ((v+1)*KK))))
def BD(g:Ϛ)(w:Δ):Prop:=g.status=.running/\∃g',stepG P true g w=.go g' w #[mk .disable]/\∃m,Goes P true (RO ty Wg) DC0 (BA P ty Wg Fin) m g' w
def CA(g:Ϛ)(w:Δ):Prop:=g.status=.running/\∃g',stepG P true g w=.go g' w #[mk (.acquire (stA Wg))]/\∃m,Goes P true RT DC0 Fin m g' w
def CE(g:Ϛ)(w:Δ):Prop:=g.status=.running/\∃g',stepG P true g w=.go g' w #[mk .enable]/\∃m,Goes P true (RO ty Wg) DC0 (CA P Wg Fin) m g' w
def C4(g:Ϛ)(w:Δ):Prop:=g.status=.running/\(WgAt ty Wg w 0 0->∃g',stepG P true g w=.go g' w #[rd (stA Wg)]/\∃m,Goes P true (RO ty Wg) DC0 (CE P ty Wg Fin) m g' w)
def C3(g:Ϛ)(w:Δ):Prop:=g.status=.running/\g.offers=none/\(∀st,WgAt ty Wg w st 0->stepG P true g w=.go {g with status:=.blocked} w #[])/\
 (WgAt ty Wg w 0 1->∃g',stepG P true g w=.go g' (w.setCell (smA Wg) (.int .u32 0)) (semEvents (smA Wg))/\∃m,Goes P true (RO ty Wg) DC0 (C4 P ty Wg Fin) m g' (w.setCell (smA Wg) (.int .u32 0)))
def CW(g:Ϛ)(w:Δ):Prop:=g.status=.running/\∃g',stepG P true g w=.go g' w #[mk (.write (smA Wg))]/\∃m,Goes P true (RO ty Wg) DC0 (C3 P ty Wg Fin) m g' w
variable (Anch:Ϛ->Ξ)
def C2(vs:Nat)(g:Ϛ)(w:Δ):Prop:=g.status=.running/\∀v:Nat,v<2147483648->WgAt ty Wg w (v*KK) 0->
 (v=vs->∃g',stepG P true g w=.go g' (w.setCell (stA Wg) (.int .u64 (v*KK+1))) #[rd (stA Wg),wr (stA Wg)]/\∃m,Goes P true (RO ty Wg) DC0 (CW P ty Wg Fin) m g' (w.setCell (stA Wg) (.int .u64 (v*KK+1))))/\
 (v≠vs->∃g',stepG P true g w=.go g' w #[rd (stA Wg)]/\∃m,Goes P true (RO ty Wg) DC0 Anch m g' w)
def C1(g:Ϛ)(w:Δ):Prop:=g.status=.running/\∀v:Nat,v<2147483648->WgAt ty Wg w (v*KK) 0->∃g',stepG P true g w=.go g' w #[rd (stA Wg)]/\
 (v=0->∃m,Goes P true (RO ty Wg) DC0 (CE P ty Wg Fin) m g' w)/\(v≠0->∃m,Goes P true (RO ty Wg) DC0 (C2 P ty Wg Fin Anch v) m g' w)
def CD(g:Ϛ)(w:Δ):Prop:=g.status=.running/\∃g',stepG P true g w=.go g' w #[mk .disable]/\∃m,Goes P true (RO ty Wg) DC0 Anch m g' w
end
section
variable {P:ϛ}{ty:ϟ}{Post:Θ->Ξ}{Wg:Nat}{Qs:List bE}{tag:nX}{O K:ϑ}{g:Ϛ}{w:Δ}{Fin Anch:Ϛ->Ξ}
def aZ{O K:ϑ}{a:nX}(b:a≠.free){w:Δ}(h:Rely O K (Al ty Wg a) w wL):RO ty Wg w wL:=λc=>h.d (λ_=>c) b
def qq(O K:ϑ)(J:Ξ):Prop:=∀w wL:Δ,(∀b,O b\/K b->wL.heap[b]?=w.heap[b]?)->w.heap.size<=wL->wL.eo=w.eo->J w->J wL
def qq.rely{O K:ϑ}{J:Ξ}{A:Ξ}(h:qq O K J){w:Δ}(a:Rely O K A w wL)(b:J w):J wL:=h w wL a.a a.size a.f b
def qq.a{O K:ϑ}{J:Ξ}(h:qq O K J)(c:¬(O Wg\/K Wg)){w:Δ}(a:Aside Wg w wL)(f:J w):J wL:=h w wL (λb d=>a.block b λe=>c (e▸d)) (by rw[a.size];lia) (Pm.oV a.os a.output) f
def aC.a{R:Δ->Ξ}{S:Ϛ->Ξ}{J:Ξ}(m:qq O K J)(i:∀w a,Rely O K (Al ty Wg tag) w a->R w a)(k:∀g w,J w->(∀a,R w a->S g a)->aC P ty Post Wg Qs tag O K g w):∀(n:Nat){g:Ϛ}{w:Δ},J w->Goes P true R DC0 S n g w->aC P ty Post Wg Qs tag O K g w:=by
 intro n;induction n with
 |zero=>intro g w d h;exact k g w d h
 |succ n p=>
  intro g w d h;rcases h with h|⟨c,h⟩;grind;refine .idle c (λa b=>?_) λa f j q b l=>?_
  .have:=h a (i _ _ b);cases e:stepG P true g a with
   |go f j q=>
    rw[e,goes_go]at this;obtain⟨⟨rfl,rfl⟩,_⟩:=this;exact⟨f,j,#[],rfl,Pm.cN ς⟩
   |_=>rw[e]at this;exact this.elim
  have:=h a (i _ _ b);rw[l,goes_go]at this;obtain⟨⟨rfl,_⟩,o⟩:=this;rw[Pm.bH O rfl];exact p (m.rely b d) o
def aF{g d:Ϛ}{w c:Δ}{b a:Array Event}(h:GStep.go g w b=GStep.go d c a):g=d/\w=c/\b=a:=ν
def ri{m:Mark}{J:Ξ}(l:qq O K J)(j:tag≠.free)(p:m=.read (smA Wg)\/m=.write (smA Wg))(f:g.status=.running)(k:J w)(h:∀a,J a->RO ty Wg w a->∃d,stepG P true g a=.go d a #[mk m]/\aC P ty Post Wg Qs tag O K d a):aC P ty Post Wg Qs tag O K g w:=by refine .idle f (λa b=>?_) λa d s r b c=>?_;let⟨d,i,_⟩:=h a (l.rely b k) (aZ j b);refine⟨d,a,_,i,Pm.cN λe c=>.inr ⟨j,smA Wg,rfl,?_⟩⟩;simp at c;subst c;rcases p with rfl|rfl;exact .inl rfl;exact .inr rfl;let⟨q,i,o⟩:=h a (l.rely b k) (aZ j b);grind[Pm.bH]
section
variable {J:Ξ}
def C5(f:qq O K J)(y:¬(O Wg\/K Wg))(r:Qs.length<2147483647)(k:∀g w,J w->(∀a,RO ty Wg w a->Fin g a)->aC P ty Post Wg Qs .go O K g w)(e:J w)(h:Goes P true (RO ty Wg) DC0 (BD P ty Wg Fin) n g w):aC P ty Post Wg Qs .sp O K g w:=by
 refine aC.a f (λ_ _=>aZ ς) (λg w e c=>?_) n e h;have u:∀g w,J w->(∀a,RO ty Wg w a->BE P ty Wg Fin g a)->aC P ty Post Wg Qs .ae O K g w:=λg w e c=>by refine .en (c w (.a ty Wg w)).1 (λa b=>?_) λa i t x b l=>?_;let⟨_,i,d,_⟩:=c a (aZ ς b);exact⟨i,d⟩;let⟨_,o,d,m,j⟩:=c a (aZ ς b);rw[d]at l;obtain⟨rfl,rfl,_⟩:=aF l;exact aC.a f (λ_ _=>aZ ς) k m (f.rely b e) j
 refine .kd (c w (.a ty Wg w)).1 (λa b=>?_) λa i t x b l=>?_;let⟨_,i,d,_⟩:=c a (aZ ς b);exact⟨i,d⟩;let⟨_,o,d,m,j⟩:=c a (aZ ς b);rw[d]at l;obtain⟨rfl,rfl,_⟩:=aF l;refine aC.a f (λ_ _=>aZ ς) (λg w e c=>?_) m (f.rely b e) j;refine .add (c w (.a ty Wg w)).1 r (λa b v z s=>?_) λa i t x v b z s l=>?_;let⟨i,d,_⟩:=(c a (aZ ς b)).2 v ω s;exact⟨i,d⟩;let⟨o,d,B,A⟩:=(c a (aZ ς b)).2 v ω s;rw[d]at l;obtain⟨rfl,rfl,_⟩:=aF l;have q:=f.a y (aside_setCell a (stA Wg) (.int .u64 ((v+1)*KK))) (f.rely b e);by_cases p:v=0;let⟨m,j⟩:=B p;refine aC.a f (λ_ _=>aZ ς) (λg w e c=>?_) m q j;refine ri f ς (.inl rfl) (c w (.a ty Wg w)).1 e λa e b=>?_;let⟨_,i,d,m,j⟩:=c a b;exact⟨i,d,aC.a f (λ_ _=>aZ ς) u m e j⟩;let⟨m,j⟩:=A p;exact aC.a f (λ_ _=>aZ ς) u m q j
def AR(o:qq O K J)(z:¬(O Wg\/K Wg))(y:∀g w,Anch g w->∃m,Goes P true (RO ty Wg) DC0 (C1 P ty Wg Fin Anch) m g w)(k:∀g w m(r:Nat->ϑ),J w->(∀(i:Nat)(Q:bE),Qs[i]?=some Q->Q (r i) w)->(∀i,i<Qs.length->∀b,r i b->¬O b/\¬K b/\b<w)->(∀i k,i<Qs.length->k<Qs.length->i≠k->∀b,r i b->¬r k b)->
  Goes P true RT DC0 Fin m g w->aC P ty Post Wg [] .free (λb=>O b\/∃i,i<Qs.length/\r i b) K g w):∀b,b<2147483648->∀g w,J w->(∀a,RO ty Wg w a->Anch g a)->aC P ty Post Wg Qs (.an b) O K g w:=by
 have L:∀g w,J w->(∀a,RO ty Wg w a->CA P Wg Fin g a)->aC P ty Post Wg Qs .aq O K g w:=λg w l d=>by refine .aq (d w (.a ty Wg w)).1 (λa c=>?_) λa j s t r c I R M h=>?_;obtain⟨_,j,e,_⟩:=d a (aZ ς c);exact⟨j,e⟩;obtain⟨_,q,e,m,p⟩:=d a (aZ ς c);rw[e]at h;obtain⟨rfl,rfl,_⟩:=aF h;exact k _ _ m r (o.rely c l) I R M p
 have A:∀g w,J w->(∀a,RO ty Wg w a->CE P ty Wg Fin g a)->aC P ty Post Wg Qs .ke O K g w:=λg w l d=>by refine .ke (d w (.a ty Wg w)).1 (λa c=>?_) λa j s t c h=>?_;obtain⟨_,j,e,_⟩:=d a (aZ ς c);exact⟨j,e⟩;obtain⟨_,q,e,m,p⟩:=d a (aZ ς c);rw[e]at h;obtain⟨rfl,rfl,_⟩:=aF h;exact aC.a o (λ_ _=>aZ ς) L m (o.rely c l) p
 have T:∀g w,J w->(∀a,RO ty Wg w a->C4 P ty Wg Fin g a)->aC P ty Post Wg Qs .w4 O K g w:=λg w l d=>by refine .l4 (d w (.a ty Wg w)).1 (λa c f=>?_) λa j s t c f h=>?_;obtain⟨j,e,_⟩:=(d a (aZ ς c)).2 f;exact⟨j,e⟩;obtain⟨q,e,m,p⟩:=(d a (aZ ς c)).2 f;rw[e]at h;obtain⟨rfl,rfl,_⟩:=aF h;exact aC.a o (λ_ _=>aZ ς) A m (o.rely c l) p
 have F:∀g w,J w->(∀a,RO ty Wg w a->C3 P ty Wg Fin g a)->aC P ty Post Wg Qs .w3 O K g w:=λg w l d=>by refine .sem (d w (.a ty Wg w)).1 (d w (.a ty Wg w)).2.1 (λa c N f=>(d a (aZ ς c)).2.2.1 N f) (λa c f=>?_) λa j s t c f h=>?_;obtain⟨j,e,_⟩:=(d a (aZ ς c)).2.2.2 f;exact⟨j,e⟩;obtain⟨q,e,m,p⟩:=(d a (aZ ς c)).2.2.2 f;rw[e]at h;obtain⟨rfl,rfl,_⟩:=aF h;exact aC.a o (λ_ _=>aZ ς) T m (o.a z (aside_setCell a (smA Wg) _) (o.rely c l)) p
 have C:∀g w,J w->(∀a,RO ty Wg w a->CW P ty Wg Fin g a)->aC P ty Post Wg Qs .w3 O K g w:=λg w l d=>by refine ri o ς (.inr rfl) (d w (.a ty Wg w)).1 l λa l c=>?_;obtain⟨_,j,e,m,p⟩:=d a c;exact⟨j,e,aC.a o (λ_ _=>aZ ς) F m l p⟩
 intro b;induction b using Nat.strongRecOn with
 |_ b E=>
  intro U g w l d;obtain⟨m,S⟩:=y g w (d w (.a ty Wg w));refine aC.a o (λ_ _=>aZ ς) (λg w l d=>?_) m l S;refine .ld (d w (.a ty Wg w)).1 (λa c v D f=>?_) (λa j s t c f h=>?_) λa j s t v c B D f h=>?_;obtain⟨j,e,_⟩:=(d a (aZ ς c)).2 v ω f;exact⟨j,e⟩;obtain⟨q,e,H,_⟩:=(d a (aZ ς c)).2 0 ω f;rw[e]at h;obtain⟨rfl,rfl,_⟩:=aF h;obtain⟨m,p⟩:=H rfl;exact aC.a o (λ_ _=>aZ ς) A m (o.rely c l) p;obtain⟨q,e,_,G⟩:=(d a (aZ ς c)).2 v ω f;rw[e]at h;obtain⟨rfl,rfl,_⟩:=aF h;obtain⟨m,p⟩:=G ω;refine aC.a o (λ_ _=>aZ ς) (λg w l d=>?_) m (o.rely c l) p;refine .cas (d w (.a ty Wg w)).1 (λa c f=>?_) (λa c u x f=>?_) (λa j s t c f h=>?_) λa j s t u c x f h=>?_;obtain⟨j,e,_⟩:=((d a (aZ ς c)).2 v ω f).1 rfl;exact⟨j,e⟩;obtain⟨j,e,_⟩:=((d a (aZ ς c)).2 u ω f).2 ω;exact⟨j,e⟩;obtain⟨q,e,m,p⟩:=((d a (aZ ς c)).2 v ω f).1 rfl;rw[e]at h;obtain⟨rfl,rfl,_⟩:=aF h;exact aC.a o (λ_ _=>aZ ς) C m (o.a z (aside_setCell a (stA Wg) _) (o.rely c l)) p;obtain⟨q,e,m,p⟩:=((d a (aZ ς c)).2 u ω f).2 ω;rw[e]at h;obtain⟨rfl,rfl,_⟩:=aF h;exact aC.a o (λ_ _=>aZ ς) (λg w l d=>E u ω ω g w l d) m (o.rely c l) p
def AS(l:qq O K J)(t:¬(O Wg\/K Wg))(p:∀g w,Anch g w->∃m,Goes P true (RO ty Wg) DC0 (C1 P ty Wg Fin Anch) m g w)(f:Qs.length<2147483648)(k:∀g w m(d:Nat->ϑ),J w->(∀(i:Nat)(Q:bE),Qs[i]?=some Q->Q (d i) w)->(∀i,i<Qs.length->∀b,d i b->¬O b/\¬K b/\b<w)->(∀i k,i<Qs.length->k<Qs.length->i≠k->∀b,d i b->¬d k b)->
  Goes P true RT DC0 Fin m g w->aC P ty Post Wg [] .free (λb=>O b\/∃i,i<Qs.length/\d i b) K g w)(e:J w)(h:Goes P true (RO ty Wg) DC0 (CD P ty Wg Anch) n g w):aC P ty Post Wg Qs .sp O K g w:=by
 refine aC.a l (λ_ _=>aZ ς) (λg w e j=>?_) n e h;refine .wd (j w (.a ty Wg w)).1 (λc a=>?_) λc r x v a q=>?_;let⟨_,r,o,_⟩:=j c (aZ ς a);exact⟨r,o⟩;let⟨_,u,o,m,s⟩:=j c (aZ ς a);rw[o]at q;obtain⟨rfl,rfl,_⟩:=aF q;exact aC.a l (λ_ _=>aZ ς) (λg w e j=>AR l t p k _ f g w e j) m (l.rely a e) s
end
end
variable {O:ϑ}{g:Ϛ}
section
variable(P:ϛ)(ty:ϟ)(Wg:Nat)
def E4(g:Ϛ)(w:Δ):Prop:=g.status=.running/\mayWake P g=true/\(WgAt ty Wg w 0 0->∃g',stepG P false g w=.go g' (w.setCell (smA Wg) (.int .u32 1)) (semEvents (smA Wg))/\∃q,QuitsD P q 1 g')
def E3(g:Ϛ)(w:Δ):Prop:=g.status=.running/\(WgAt ty Wg w 1 0->∃g',stepG P false g w=.go g' (w.setCell (stA Wg) (.int .u64 0)) #[wr (stA Wg)]/\∃m,Goes P false (RO ty Wg) DC0 (E4 P ty Wg) m g' (w.setCell (stA Wg) (.int .u64 0)))
def E2(g:Ϛ)(w:Δ):Prop:=g.status=.running/\(WgAt ty Wg w 1 0->∃g',stepG P false g w=.go g' w #[rd (stA Wg)]/\∃m,Goes P false (RO ty Wg) DC0 (E3 P ty Wg) m g' w)
def E1(g:Ϛ)(w:Δ):Prop:=g.status=.running/\∀v wt:Nat,wt<=1->v<2147483647->WgAt ty Wg w ((v+1)*KK+wt) 0->
 ∃g',stepG P false g w=.go g' (w.setCell (stA Wg) (.int .u64 (v*KK+wt))) #[rd (stA Wg),wr (stA Wg)]/\
   ((v=0/\wt=1)->∃m,Goes P false (RO ty Wg) DC0 (E2 P ty Wg) m g' (w.setCell (stA Wg) (.int .u64 (v*KK+wt))))/\(¬(v=0/\wt=1)->∃q,QuitsD P q 1 g')
def EK(g:Ϛ)(w:Δ):Prop:=g.status=.running/\∃g',stepG P false g w=.go g' w #[mk .disable]/\∃m,Goes P false (RO ty Wg) DC0 (E1 P ty Wg) m g' w
def ER(g:Ϛ)(w:Δ):Prop:=g.status=.running/\∃g',stepG P false g w=.go g' w #[mk (.releaseMerge (stA Wg))]/\∃m,Goes P false (RO ty Wg) DC0 (EK P ty Wg) m g' w
end
def ju{P:ϛ}:∀{n m d:Nat}{g:Ϛ},QuitsD P n d g->n<=m->QuitsD P m d g
 |0,0,_,_,h,_=>h
 |0,m+1,_,_,h,_=>.inl h
 |n+1,0,_,_,_,j=>ω
 |n+1,m+1,_,_,h,j=>h.imp id λ⟨b,c,f,i,e,a⟩=>⟨b,c,f,i,e,ju a ω⟩
section
variable {P:ϛ}{ty:ϟ}{Wg:Nat}{Q:bE}{K:ϑ}
def xh{K:ϑ}{a:Δ}(h:Rely O K (WgLive ty Wg) w a):RO ty Wg w a:=h.d
def zI{M:dD->Δ->(ϑ)->Ϛ->Ξ}(h:∀a,Rely O K (WgLive ty Wg) w a->∃T,∀c b d,stepG P false g a=.go c b d->M T a (grow O a b) c b):∃f:Δ->dD,∀a c b d,Rely O K (WgLive ty Wg) w a->stepG P false g a=.go c b d->M (f a) a (grow O a b) c b:=by
 refine⟨λa=>open Classical in if e:Rely O K _ w a then Classical.choose (h a e) else .leaf,λa c b d e i=>?_⟩;simp only[dif_pos e];exact Classical.choose_spec (h a e) c b d i
def Wk.f{Stop:(ϑ)->Ϛ->Ξ}(h:Pm.Way P false K (WgLive ty Wg) oK Stop O g w)(k:∀O g w,(∀a,Rely O K (WgLive ty Wg) w a->Stop O g a)->∃T,Wk P ty Wg Q K T 7 0 O g w):∃T,Wk P ty Wg Q K T 7 0 O g w:=by
 induction h with
 |stop h=>simp_all
 |@step O g w c b h q=>
  obtain⟨f,p⟩:=zI λa d=>by obtain⟨l,n,m,j,_⟩:=b a d;obtain⟨T,o⟩:=q a l n m d j;refine⟨T,λt s r i=>?_⟩;rw[j]at i;obtain⟨rfl,rfl,_⟩:=aF i;exact o
  exact⟨.node f,.idle ω c (λa d=>let ⟨l,n,m,j,i⟩:=b a d;⟨l,n,m,j,i,λe=>absurd rfl e⟩) p⟩
def Wk.a{S:Ϛ->Ξ}{s d:Nat}(v:(s=7/\d=0)\/(s=6/\d=0)\/(2<=s/\s<=5/\d=1)){J:Ξ}(x:∀w a,Rely O K (WgLive ty Wg) w a->J w->J a)(k:∀g w,J w->(∀a,RO ty Wg w a->S g a)->∃T,Wk P ty Wg Q K T s d O g w):∀(n:Nat){g:Ϛ}{w:Δ},J w->Goes P false (RO ty Wg) DC0 S n g w->∃T,Wk P ty Wg Q K T s d O g w:=by
 intro n;induction n with
 |zero=>intro g w i h;exact k g w i h
 |succ n m=>
  intro g w i h;rcases h with h|⟨c,h⟩
  .simp_all
  obtain⟨f,u⟩:=zI λa e=>by
   have:=h a (xh e);cases b:stepG P _ g a with
   |go l j z=>
    rw[b,goes_go]at this;obtain⟨⟨rfl,rfl⟩,y⟩:=this;obtain⟨T,r⟩:=m (x _ _ e i) y;refine⟨T,λq p o t=>?_⟩;obtain⟨rfl,rfl,_⟩:=aF t;rwa [Pm.bH O rfl]
   |_=>rw[b]at this;exact this.elim
  refine⟨.node f,.idle v c (λa e=>?_) u⟩;have:=h a (xh e);cases b:stepG P _ g a with
  |go l j z=>
   rw[b,goes_go]at this;obtain⟨⟨rfl,rfl⟩,_⟩:=this;exact⟨l,j,#[],rfl,Pm.cN ς,λ_=>⟨rfl,rfl⟩⟩
  |_=>rw[b]at this;exact this.elim
def fQ{C:Ξ}{M:dD->Ϛ->Ξ}(h:∀a,Rely O K (WgLive ty Wg) w a->C a->∃T,∀c b e,stepG P false g a=.go c b e->M T c b):∃f:Δ->dD,∀a c b e,Rely O K (WgLive ty Wg) w a->C a->stepG P false g a=.go c b e->M (f a) c b:=by
 refine⟨λa=>open Classical in if d:Rely O K _ w a/\C a then Classical.choose (h a d.1 d.2) else .leaf,λa c b e d i j=>?_⟩;simp only[dif_pos (And.intro d i)];exact Classical.choose_spec (h a d i) c b e j
def Wk.d{n:Nat}(hQ:∀c,Rely O K (WgLive ty Wg) w c->Q O c)(h:Goes P false (RO ty Wg) DC0 (ER P ty Wg) n g w):∃T,Wk P ty Wg Q K T 7 0 O g w:=by
 have I:∀w c:Δ,Rely O K (WgLive ty Wg) w c->True->True:=λ_ _ _ h=>h;have X:∀g w,True->(∀c,RO ty Wg w c->E4 P ty Wg g c)->∃T,Wk P ty Wg Q K T 2 1 O g w:=λg w _ j=>by
  obtain⟨f,C⟩:=fQ (M:=λT e l=>Wk P ty Wg Q K T 1 1 O e l) λc d z=>by obtain⟨e,i,q,G⟩:=(j c (xh d)).2.2 z;let⟨T,A⟩:=Wk.c G;refine⟨T,λr y s B=>?_⟩;rw[i]at B;grind
  refine⟨.node f,.d4 (j w (.a ty Wg w)).1 (j w (.a ty Wg w)).2.1 (λc d z=>?_) C⟩;let⟨e,i,q,G⟩:=(j c (xh d)).2.2 z;refine⟨e,i,?_⟩;cases q with
  |zero=>exact absurd G.2 θ
  |succ q=>exact G.elim (λx=>absurd x.2 θ) λx=>x.1
 have k:∀g w,True->(∀c,RO ty Wg w c->E3 P ty Wg g c)->∃T,Wk P ty Wg Q K T 3 1 O g w:=λg w _ j=>by
  obtain⟨f,C⟩:=fQ λc d z=>by obtain⟨e,i,m,B⟩:=(j c (xh d)).2 z;let⟨T,A⟩:=Wk.a ((by omega)) I X m trivial B;refine⟨T,λr y s k=>?_⟩;rw[i]at k;obtain⟨rfl,rfl,_⟩:=aF k;exact A
  exact⟨.node f,.d3 (j w (.a ty Wg w)).1 (λc d z=>let ⟨e,i,_⟩:=(j c (xh d)).2 z;⟨e,i⟩) C⟩
 have B:∀g w,True->(∀c,RO ty Wg w c->E2 P ty Wg g c)->∃T,Wk P ty Wg Q K T 4 1 O g w:=λg w _ j=>by
  obtain⟨f,C⟩:=fQ λc d z=>by obtain⟨e,i,m,B⟩:=(j c (xh d)).2 z;let⟨T,A⟩:=Wk.a ((by omega)) I k m trivial B;refine⟨T,λr y s k=>?_⟩;rw[i]at k;obtain⟨rfl,rfl,_⟩:=aF k;exact A
  exact⟨.node f,.d2 (j w (.a ty Wg w)).1 (λc d z=>let ⟨e,i,_⟩:=(j c (xh d)).2 z;⟨e,i⟩) C⟩
 have i:∀g w,True->(∀c,RO ty Wg w c->E1 P ty Wg g c)->∃T,Wk P ty Wg Q K T 5 1 O g w:=λg w _ j=>by
  obtain⟨f,C⟩:=fQ (C:=λc=>∃v p:Nat,p<=1/\v<2147483647/\WgAt ty Wg c ((v+1)*KK+p) 0)
   (M:=λT e l=>(∃v p:Nat,p<=1/\v<2147483647/\WgAt ty Wg l (v*KK+p) 0/\((v=0/\p=1)->Wk P ty Wg Q K T 4 1 O e l)/\(¬(v=0/\p=1)->Wk P ty Wg Q K T 1 1 O e l))) λc d z=>by let⟨v,p,o,E,u⟩:=z;let⟨e,i,N,H⟩:=(j c (xh d)).2 v p o E u;by_cases R:v=0/\p=1;let⟨m,k⟩:=N R;let⟨T,A⟩:=Wk.a ((by omega)) I B m trivial k;refine⟨T,λr y s k=>?_⟩;rw[i]at k;obtain⟨rfl,rfl,_⟩:=aF k;exact⟨v,p,o,E,u.setSt _,λ_=>A,λh=>absurd R h⟩;let⟨q,G⟩:=H R;let⟨T,A⟩:=Wk.c G;refine⟨T,λr y s k=>?_⟩;rw[i]at k;obtain⟨rfl,rfl,_⟩:=aF k;exact⟨v,p,o,E,u.setSt _,λh=>absurd h R,λ_=>A _ _ _ _ _ _⟩
  have t:∀{l:Δ}{a b:Int},WgAt ty Wg l a 0->WgAt ty Wg l b 0->a=b:=λH h2=>by unfold WgAt wgBlock at H h2;grind
  refine⟨.node f,.add (j w (.a ty Wg w)).1 (λc d v p o E u=>let ⟨e,i,_⟩:=(j c (xh d)).2 v p o E u;⟨e,i⟩) (λc e l s d u D=>?_) λc e l s v p d o E u Z D=>?_⟩;let⟨r,i,_⟩:=(j c (xh d)).2 0 1 ω ω u;let⟨v,p,o,E,F,N,H⟩:=C c e l s d ⟨0,1,ω,ω,u⟩ D;rw[i]at D;obtain⟨rfl,rfl,_⟩:=aF D;have:=t F (u.setSt _);simp only[KK]at this;exact N ω;let⟨r,i,_⟩:=(j c (xh d)).2 v p o E u;let⟨v',W,U,Y,F,N,H⟩:=C c e l s d ⟨v,p,o,E,u⟩ D;rw[i]at D;obtain⟨rfl,rfl,_⟩:=aF D;have:=t F (u.setSt _);simp only[KK]at this;exact H ω
 have V:∀g w,True->(∀c,RO ty Wg w c->EK P ty Wg g c)->∃T,Wk P ty Wg Q K T 6 0 O g w:=λg w _ j=>by
  obtain⟨f,C⟩:=fQ (P:=P) (O:=O) (K:=K) (ty:=ty) (Wg:=Wg) (g:=g) (w:=w) (C:=λ_=>True) (M:=λT e l=>Wk P ty Wg Q K T 5 1 O e l) λc d _=>by obtain⟨_,e,B,m,k⟩:=j c (xh d);let⟨T,A⟩:=Wk.a ((by omega)) I i m trivial k;refine⟨T,λr y s k=>?_⟩;grind
  exact⟨.node f,.dis (j w (.a ty Wg w)).1 (λc d=>let ⟨_,e,i,_⟩:=j c (xh d);⟨e,i⟩) λc e l s d D=>C c e l s d trivial D⟩
 refine Wk.a (J:=λw=>∀c,Rely O K (WgLive ty Wg) w c->Q O c) ω (λw c d S M L=>S M (d.e L)) (λg w S j=>?_) n hQ h;obtain⟨f,C⟩:=fQ (P:=P) (O:=O) (K:=K) (ty:=ty) (Wg:=Wg) (g:=g) (w:=w) (C:=λ_=>True) (M:=λT e l=>Wk P ty Wg Q K T 6 0 O e l) λc d _=>by obtain⟨_,e,B,m,k⟩:=j c (xh d);let⟨T,A⟩:=Wk.a ω I V m trivial k;refine⟨T,λr y s k=>?_⟩;grind
 exact⟨.node f,.rel (j w (.a ty Wg w)).1 S (λc d=>let ⟨_,e,i,_⟩:=j c (xh d);⟨e,i⟩) λc e l s d D=>C c e l s d trivial D⟩
end
