import Derived.Conc.CrowdRun
import Derived.Conc.Beside
import Derived.Test.YtoklolfaemhfnaaGreatDoorZbc
set_option maxRecDepth 100000
set_option maxHeartbeats 0
set_option linter.defProp false
namespace Go.Cr
section
open Go Go.Conc
open Go.ConcN (PermW fork_knows RelBy)
open Go.Pm (Rely Guar Ev grow Way)
variable {i g:Nat}{O':Nat->Prop}{own' ro':Nat->Nat->Prop}{y:MemOp}
inductive dD where
 |leaf
 |node (f:World->dD)
inductive dD.a:dD->dD->Prop
 |mk (f:World->dD) (w:World):dD.a (f w) (.node f)
def dD.b(T:dD):Acc dD.a T:=by
 induction T with
 |leaf=>exact .intro _ fun y h=>nomatch h
 |node f a=>exact .intro _ fun y h=>by cases h;exact a _
inductive nu:List dD->List dD->Prop
 |head {a b:dD}{l:List dD}:dD.a b a->nu (b::l) (a::l)
 |tail {a:dD}{l l':List dD}:nu l' l->nu (a::l') (a::l)
def nu.a:∀l,Acc nu l:=by
 intro l;induction l with
 |nil=>exact .intro _ fun y h=>nomatch h
 | cons a l f =>
   have c:∀a,Acc dD.a a->∀l,Acc nu l->Acc nu (a::l):=by
    intro a j;induction j with
    | intro a _ d =>
      intro l e;induction e with
      | intro l e b =>
        refine .intro _ fun y h=>?_;cases h with
        |head h=>exact d _ h _ (.intro _ e)
        |tail h=>exact b _ h
   exact c a a.b l f
def nu.upd{f f':Nat->dD}:∀{a n:Nat},a<=i->i<a+n->dD.a (f' i) (f i)->(∀k,k≠i->f' k=f k)->nu ((List.range' a n).map f') ((List.range' a n).map f)
 |a,0,h,d,_,_=>by omega
 | a, n + 1, h, d, c, b => by
   simp only[List.range'_succ,yN];by_cases e:a=i
   ·subst e;have:(List.range' (a+1) n).map f'=(List.range' (a+1) n).map f:=by
     apply GU;intro k j;exact b k ν
    rw[this];exact .head c
   ·rw[b a e];exact .tail (nu.upd ω ω c b)
def kU(O:Nat->Prop):Loc->Prop
 |.cell a=>O a.block
 |.obj b=>O b
 |_=>False
def kU.b{O:Nat->Prop}{l:Loc}(h:kU O l):l.isMemory=true:=by cases l <;> first|rfl|exact h.elim
def kU.c{O:Nat->Prop}(a:∀b,O b->O' b){l:Loc}(h:kU O l):kU O' l:=by cases l <;> first|exact a _ h|exact h.elim
def kU.a{O:Nat->Prop}{l:Loc}(h:kU O l)(a:kU O' l):∃b,O b/\O' b:=by cases l <;> first|exact⟨_,h,a⟩|exact h.elim
def kU.cases{O OB OW:Nat->Prop}(a:∀b,O b->OB b\/OW b){l:Loc}(h:kU O l):kU OB l\/kU OW l:=by cases l <;> first|exact a _ h|exact h.elim
def AQ{B:Nat}{x:MemAct}(h:x.low B){a:Touch}(c:x.touch?=some a):kU (fun b=>B<=b) a.loc->False:=by
 intro f;cases x with
 | access e =>
   injection c with c;subst c;obtain⟨d,k,j⟩:=e;cases d <;> first|exact f.elim|exact absurd h (xl.2 f)
 | mark m =>
   cases m <;> first|(injection c with c;subst c;exact absurd h (xl.2 f))|cases c
 |_=>cases c
def xt{B:Nat}{t:Trace}(h:∀e∈t,e.act.low B){a:Touch}(j:touchAt t i=some a)(f:kU (fun b=>B<=b) a.loc):False:=by
 obtain⟨x,d,c⟩:=touch_of j;exact AQ (h x (yaj d)) c f
structure Ht (W O K:Nat->Prop) (j:Nat) (own ro:Nat->Nat->Prop) (B:Nat):Prop where
 a:∀b,O b\/K b\/W b->b<B
 d:∀i,i<j->∀b,own i b\/ro i b->b<B
 ok:∀b,O b->¬K b
 f:∀b,W b->¬O b/\¬K b
 c:∀i,i<j->∀b,W b->¬own i b/\¬ro i b
 e:∀i,i<j->∀b,O b->¬own i b/\¬ro i b
 h:∀i,i<j->∀b,K b->¬own i b
 l:∀i k,i<j->k<j->i≠k->∀b,own i b->¬own k b
 m:∀i k,i<j->k<j->∀b,own i b->¬ro k b
def LY(g:Nat)(O K W:Nat->Prop)(x:Touch):Prop:=
 x.loc.isMemory=false\/kU O x.loc\/(kU K x.loc/\x.write=false)\/(kU W x.loc/\(x.kind=.atomic\/(g=0/\x.kind=.said)))
def I6(g:Nat)(O K W:Nat->Prop)(B:Nat)(u:Trace):Prop:=
 ∀op∈u,op.g=g/\(∀x,op.act.touch?=some x->LY g O K W x)/\op.act.low B/\∀a,op.act≠.mark (.release a)
structure TL (W O K:Nat->Prop) (base j:Nat) (own ro:Nat->Nat->Prop) (B:Nat) (t:Trace):Prop where
 c:∀said,¬Race said t
 f:∀op∈t,op.act.low B
 e:∀l,kU O l->Conc.Perm t 0 l
 n:∀l,kU K l->PermW t 0 l
 own:∀i,i<j->∀l,kU (own i) l->Conc.Perm t (i+1) l
 ro:∀i,i<j->∀l,kU (ro i) l->PermW t (i+1) l
 o:∀i a,touchAt t i=some a->kU W a.loc->a.kind≠.atomic->Knows t 0 i
 x:∀k,base<=k->k<j->∀i a,touchAt t i=some a->kU W a.loc->a.kind=.plain->Knows t (k+1) i
 m:∀i a,touchAt t i=some a->a.loc.isMemory=true->Knows t 0 i\/(a.kind=.atomic/\kU W a.loc)\/(∃k,base<=k/\k<j/\t.g? i=some (k+1))
 h:∀i g,t.g? i=some g->g≠0->t.counts i->(∃q,t.g? q=some 0/\HappensBefore t i q)\/(∃k,base<=k/\k<j/\g=k+1)
 b:∀k,j<k->Deaf t k=0
 d:∀op∈t,∀a,op.act≠.mark (.release a)
def bk{t u:Trace}{a:Touch}(h:touchAt (t++u) i=some a):touchAt t i=some a\/(∃d∈u,d.act.touch?=some a/\(t++u)[i]?=some d):=by
 obtain⟨x,e,c⟩:=touch_of h;rcases getElem?_append_cases e with ⟨_,b⟩|⟨_,f⟩
 ·exact .inl (by rw[touchAt_of b];exact c)
 grind
def fV{t u:Trace}(h:t.g? i=some g):(t++u).g? i=some g:=by
 obtain⟨z,a,_⟩:=yE.1 h;rw[g?_old (lt_size_of_getElem? a)];exact h
section
variable {W O K:Nat->Prop}{base j:Nat}{own ro:Nat->Nat->Prop}{B B':Nat}{t u:Trace}
def oN{r:Nat->Prop}{f:Bool}(z:¬Race f t)(q:I6 g O' r W B' u)
 (x:∀l,kU O' l->Conc.Perm t g l) (A:∀l,kU r l->PermW t g l)
 (D:∀i a,touchAt t i=some a->kU W a.loc->a.kind=.plain->Knows t g i) (w:g=0->∀i a,touchAt t i=some a->kU W a.loc->a.kind≠.atomic->Knows t 0 i):¬Race f (t++u):=by
 refine noRace_append z (fun p m=>(q p m).1) fun i a o p m b C k=>?_;obtain⟨e,E,s,d⟩:=k;rcases (q p m).2.1 b C with h|h|⟨h,v⟩|⟨h,c⟩
 ·rw[<-e,E] at h;cases h
 ·exact x _ h i a o e
 ·exact A _ h i a o e (s.resolve_right (by simp[v]))
 ·have n:=e▸h;rcases c with c|⟨rfl,c⟩
  ·rcases d with d|d|⟨_,_,d⟩
   ·exact D i a o n d
   ·rw[c] at d;cases d
   ·rw[c] at d;cases d
  ·refine w rfl i a o n fun F=>?_;grind
def uo(d:∀c∈t,c.act.low B){l:Loc}(f:kU (fun b=>B<=b) l):Conc.Perm t g l:=fun i a h e=>(xt d h (by rw[e];exact f)).elim
def TL.s(S:Ht W O K j own ro B)(h:TL W O K base j own ro B t)(Q:B<=B')(P:∀b,O' b->O b\/B<=b)(v:I6 0 O' K W B' u):TL W O' K base j own ro B' (t++u):=by
 have H:=fun l p=>(kU.cases P p).elim (h.e l) (uo h.f);have s:∀(Z:Nat->Prop),(∀b,Z b->b<B)->(∀b,O b->¬Z b)->(∀b,W b->¬Z b)->∀l,kU Z l->∀f∈u,∀b:Touch,f.act.touch?=some b->b.loc=l->(kU K l/\b.write=false):=by
  intro Z hZ R a0 l p f d b n e;rcases (v f d).2.1 b n with m|m|⟨m,hr⟩|⟨m,_⟩
  ·rw[e,p.b] at m;cases m
  ·rw[e] at m;obtain⟨c,C,w⟩:=kU.a p m;grind
  ·grind
  ·rw[e] at m;obtain⟨c,C,w⟩:=kU.a p m;grind
 refine⟨fun G=>oN (h.c G) v H h.n (fun i a r A hp=>h.o i a r A ν) (fun _=>h.o),
  seen_app (fun f d=>MemAct.low_mono Q (h.f f d)) (fun f d=>(v f d).2.2.1),
  fun l p=>(H l p).app fun f d _ _ _=>(v f d).1,fun l p=>(h.n l p).app fun f d _ _ _ _=>(v f d).1,fun i o l p=>(h.own i o l p).app fun f d b n e=>?_,fun i o l p=>(h.ro i o l p).app fun f d b n e hw=>?_,
  fun i a r A F=>?_,fun k L M i a r A F=>?_,fun i a r Y=>?_,fun i g hg E V=>?_,fun k F=>?_,fun f d a=>?_⟩
 ·exfalso
  have:=s _ (fun b n=>S.d i o b (.inl n)) (fun b n=>(S.e i o b n).1) (fun b n=>(S.c i o b n).1) l p f d b n e;obtain⟨c,C,w⟩:=kU.a p this.1;exact S.h i o c w C
 ·have:=s _ (fun b n=>S.d i o b (.inr n)) (fun b n=>(S.e i o b n).2) (fun b n=>(S.c i o b n).2) l p f d b n e;grind
 ·rcases bk r with r|⟨f,d,D,o⟩
  ·exact(h.o i a r A F).app u
  ·have:=knows_own o;rwa [(v f d).1] at this
 ·rcases bk r with r|⟨f,d,D,o⟩
  ·exact(h.x k L M i a r A F).app u
  ·exfalso
   rcases (v f d).2.1 a D with m|m|⟨m,_⟩|⟨_,m⟩
   ·rw[A.b] at m;cases m
   ·obtain⟨c,C,w⟩:=kU.a A m;rcases P c w with w|w
    ·exact(S.f c C).1 w
    ·exact absurd (S.a c (.inr (.inr C))) (xl.2 w)
   ·obtain⟨c,C,w⟩:=kU.a A m;exact(S.f c C).2 w
   grind
 ·rcases bk r with r|⟨f,d,D,o⟩
  ·exact(h.m i a r Y).imp (·.app u) (Or.imp id fun ⟨k,L,M,T⟩=>⟨k,L,M,fV T⟩)
  ·have:=knows_own o;rw[(v f d).1] at this;grind
 ·obtain⟨z,hz,rfl⟩:=yE.1 hg;rcases getElem?_append_cases hz with ⟨o,N⟩|⟨_,I⟩
  ·exact(h.h i z.g (by simp[Trace.g?,N]) E ((counts_old o).1 V)).imp (fun ⟨q,U,X⟩=>⟨q,fV U,hb_app u X⟩) id
  ·exact absurd (v z I).1 E
 ·rw[Deaf_other t ω u fun f d=>(v f d).1];exact h.b k F
 ·exact(Kx.1 d).elim (fun x=>h.d f x a) (fun x=>(v f x).2.2.2 a)
def TL.r(S:Ht W O K j own ro B)(h:TL W O K base j own ro B t)(f:base<=i)(v:i<j)(U:B<=B')(Q:∀b,own' i b->own i b\/B<=b)(F:∀k,k≠i->own' k=own k)
 (C:I6 (i+1) (own' i) (ro i) W B' u):TL W O K base j own' ro B' (t++u):=by
 have I:=fun l o=>(kU.cases Q o).elim (h.own i v l) (uo h.f);have r:∀(Z:Nat->Prop),(∀b,Z b->b<B)->(∀b,own i b->¬Z b)->(∀b,W b->¬Z b)->∀l,kU Z l->∀m∈u,∀b:Touch,m.act.touch?=some b->b.loc=l->(kU (ro i) l/\b.write=false):=by
  intro Z hZ V a0 l o m d b f e;rcases (C m d).2.1 b f with n|n|⟨n,hr⟩|⟨n,_⟩
  ·rw[e,o.b] at n;cases n
  ·rw[e] at n;obtain⟨c,w,p⟩:=kU.a o n;grind
  ·grind
  ·rw[e] at n;obtain⟨c,w,p⟩:=kU.a o n;grind
 refine⟨fun H=>oN (h.c H) C I (h.ro i v) (h.x i f v) (fun e=>by omega),
  seen_app (fun m d=>MemAct.low_mono U (h.f m d)) (fun m d=>(C m d).2.2.1),
  fun l o=>(h.e l o).app fun m d b f e=>?_,fun l o=>(h.n l o).app fun m d b f e T=>?_,fun k s l o=>?_,fun k s l o=>(h.ro k s l o).app fun m d b f e T=>?_,
  fun x a A D s=>?_,fun k M N x a A D s=>?_,fun x a A hm=>?_,fun x g hg F hc=>?_,fun k s=>?_,fun m d a=>?_⟩
 ·exfalso
  have:=r O (fun b f=>S.a b (.inl f)) (fun b f G=>(S.e i v b G).1 f) (fun b f=>(S.f b f).1) l o m d b f e;obtain⟨c,w,p⟩:=kU.a o this.1;exact(S.e i v c w).2 p
 ·have:=r K (fun b f=>S.a b (.inr (.inl f))) (fun b f G=>S.h i v b G f) (fun b f=>(S.f b f).2) l o m d b f e;grind
 ·by_cases e:k=i
  ·subst e;exact(I l o).app fun m d _ _ _=>(C m d).1
  ·rw[F k e] at o;refine(h.own k s l o).app fun m d b f e'=>?_;exfalso
   have:=r _ (fun b f=>S.d k s b (.inl f)) (fun b f G=>S.l i k v s (Ne.symm e) b f G) (fun b f=>(S.c k s b f).1) l o m d b f e';obtain⟨c,w,p⟩:=kU.a o this.1;exact S.m k i s v c w p
 ·exfalso
  have:=r _ (fun b f=>S.d k s b (.inr f)) (fun b f G=>S.m i k v s b f G) (fun b f=>(S.c k s b f).2) l o m d b f e;grind
 ·rcases bk A with A|⟨m,d,E,_⟩
  ·exact(h.o x a A D s).app u
  ·exfalso
   rcases (C m d).2.1 a E with n|n|⟨n,_⟩|⟨_,n⟩
   ·rw[D.b] at n;cases n
   ·obtain⟨c,w,p⟩:=kU.a D n;rcases Q c p with p|p
    ·exact(S.c i v c w).1 p
    ·exact absurd (S.a c (.inr (.inr w))) (xl.2 p)
   ·obtain⟨c,w,p⟩:=kU.a D n;exact(S.c i v c w).2 p
   grind
 ·rcases bk A with A|⟨m,d,E,_⟩
  ·exact(h.x k M N x a A D s).app u
  ·exfalso
   rcases (C m d).2.1 a E with n|n|⟨n,_⟩|⟨_,n⟩
   ·rw[D.b] at n;cases n
   ·obtain⟨c,w,p⟩:=kU.a D n;rcases Q c p with p|p
    ·exact(S.c i v c w).1 p
    ·exact absurd (S.a c (.inr (.inr w))) (xl.2 p)
   ·obtain⟨c,w,p⟩:=kU.a D n;exact(S.c i v c w).2 p
   grind
 ·rcases bk A with A|⟨m,d,E,n⟩
  ·exact(h.m x a A hm).imp (·.app u) (Or.imp id fun ⟨k,M,N,X⟩=>⟨k,M,N,fV X⟩)
  ·exact .inr (.inr ⟨i,f,v,by simp[Trace.g?,n,(C m d).1]⟩)
 ·obtain⟨z,hz,rfl⟩:=yE.1 hg;rcases getElem?_append_cases hz with ⟨R,P⟩|⟨_,L⟩
  ·exact(h.h x z.g (by simp[Trace.g?,P]) F ((counts_old R).1 hc)).imp (fun ⟨q,Y,q2⟩=>⟨q,fV Y,hb_app u q2⟩) id
  ·exact .inr ⟨i,f,v,(C z L).1⟩
 ·rw[Deaf_other t (g':=i+1) ω u fun m d=>(C m d).1];exact h.b k s
 ·exact(Kx.1 d).elim (fun x=>h.d m x a) (fun x=>(C m x).2.2.2 a)
def TL.w(h:TL W O K base j own ro B t)(T:g<=j)(v:∀d∈u,d.g=g/\d.act.touch?=none/\d.act.low B/\∀a,d.act≠.mark (.release a)):TL W O K base j own ro B (t++u):=by
 have o:∀d∈u,∀b:Touch,d.act.touch?=some b->False:=fun d c b f=>ν;refine⟨fun s=>noRace_append (h.c s) (fun d c=>(v d c).1) fun i a _ d c b f _=>(o d c b f).elim,seen_app h.f (fun d c=>(v d c).2.2.1),
  fun l n=>(h.e l n).app fun d c b f _=>(o d c b f).elim,fun l n=>(h.n l n).app fun d c b f _ _=>(o d c b f).elim,fun i p l n=>(h.own i p l n).app fun d c b f _=>(o d c b f).elim,fun i p l n=>(h.ro i p l n).app fun d c b f _ _=>(o d c b f).elim,
  fun i a e A r=>?_,fun k F w i a e A r=>?_,fun i a e R=>?_,fun i U E C G=>?_,fun k r=>?_,fun d c a=>?_⟩
 ·rcases bk e with e|⟨d,c,m,_⟩
  ·exact(h.o i a e A r).app u
  ·exact(o d c a m).elim
 ·rcases bk e with e|⟨d,c,m,_⟩
  ·exact(h.x k F w i a e A r).app u
  ·exact(o d c a m).elim
 ·rcases bk e with e|⟨d,c,m,_⟩
  ·exact(h.m i a e R).imp (·.app u) (Or.imp id fun ⟨k,F,w,L⟩=>⟨k,F,w,fV L⟩)
  grind
 ·obtain⟨z,H,rfl⟩:=yE.1 E;rcases getElem?_append_cases H with ⟨p,D⟩|⟨_,M⟩
  ·exact(h.h i z.g (by simp[Trace.g?,D]) C ((counts_old p).1 G)).imp (fun ⟨q,P,Q⟩=>⟨q,fV P,hb_app u Q⟩) id
  ·obtain⟨x,N,_⟩:=G;obtain⟨y,S,I⟩:=touch_of N;grind
 ·rw[Deaf_other t ω u fun d c=>(v d c).1];exact h.b k r
 ·exact(Kx.1 c).elim (fun x=>h.d d x a) (fun x=>(v d x).2.2.2 a)
def TL.v{E R:Nat->Prop}(h:TL W O K base j own ro B t)(a1:base<=j){x:MemOp}(H:x.g=0/\x.act=.go (j+1))(I:y.g=j+1/\y.act=.start)(h0:Deaf t 0=0)
 (X:∀b,E b->O b) (T:∀b,R b->O b\/K b) (Y:own' j=E) (e2:ro' j=R) (e3:∀k,k≠j->own' k=own k) (e4:∀k,k≠j->ro' k=ro k) :
 TL W (fun b=>O b/\¬E b/\¬R b) (fun b=>K b\/R b) base (j+1) own' ro' B (t++#[x,y]):=by
 have L:Deaf t (j+1)=0:=h.b _ ω;have p:∀d∈#[x,y],d=x\/d=y:=by intro d c;simpa using c
 have r:∀d∈#[x,y],∀b:Touch,d.act.touch?=some b->False:=by
  intro d c b m;rcases p d c with rfl|rfl
  ·rw[H.2] at m;cases m
  ·rw[I.2] at m;cases m
 have n:∀{i:Nat}{a:Touch},touchAt (t++#[x,y]) i=some a->touchAt t i=some a:=fun o=>(bk o).elim id fun ⟨d,c,M,_⟩=>(r d c _ M).elim;have Q:∀{i:Nat},Knows t 0 i->Knows (t++#[x,y]) (j+1) i:=fun v=>fork_knows H I h0 L v;refine⟨fun w=>?_,seen_app h.f (fun d c=>?_),fun l f=>(h.e l (f.c fun b m=>m.1)).app fun d c b m _=>(r d c b m).elim,fun l f=>?_,fun i v l f=>?_,fun i v l f=>?_,
  fun i a o A D=>(h.o i a (n o) A D).app _,fun k s U i a o A D=>?_,fun i a o hm=>?_,fun i g hg N S=>?_,fun k D=>?_,fun d c a=>?_⟩
 ·have e:t++#[x,y]=(t++#[x])++#[y]:=by apply Array.ext';simp
  rw[e];refine noRace_append (g:=j+1) (noRace_append (g:=0) (h.c w) (fun d c=>by grind) (fun i a _ d c b m _=>(r d ν b m).elim))
   (fun d c=>by grind) (fun i a _ d c b m _=>(r d ν b m).elim)
 ·rcases p d c with rfl|rfl
  ·rw[H.2];trivial
  ·rw[I.2];trivial
 ·have:PermW t 0 l:=by
   rcases kU.cases (fun b m=>m) f with f|f
   ·exact h.n l f
   ·rcases kU.cases T f with f|f
    ·exact .of (h.e l f)
    ·exact h.n l f
  exact this.app fun d c b m _ _=>(r d c b m).elim
 ·by_cases e:i=j
  ·subst e;rw[Y] at f;exact fun q a o C=>Q (h.e l (f.c X) q a (n o) C)
  ·rw[e3 i e] at f;exact(h.own i ω l f).app fun d c b m _=>(r d c b m).elim
 ·by_cases e:i=j
  ·subst e;rw[e2] at f;exact fun q a o C V=>Q ((kU.cases T f).elim (fun f=>h.e l f q a (n o) C) (fun f=>h.n l f q a (n o) C V))
  ·rw[e4 i e] at f;exact(h.ro i ω l f).app fun d c b m _ _=>(r d c b m).elim
 ·by_cases e:k=j
  ·subst e;exact Q (h.o i a (n o) A ν)
  ·exact(h.x k s ω i a (n o) A D).app _
 ·exact(h.m i a (n o) hm).imp (·.app _) (Or.imp id fun ⟨k,s,U,F⟩=>⟨k,s,ω,fV F⟩)
 ·obtain⟨z,hz,rfl⟩:=yE.1 hg;rcases getElem?_append_cases hz with ⟨v,P⟩|⟨_,a0⟩
  ·exact(h.h i z.g (by simp[Trace.g?,P]) N ((counts_old v).1 S)).imp (fun ⟨q,q1,q2⟩=>⟨q,fV q1,hb_app _ q2⟩) fun ⟨k,s,U,F⟩=>⟨k,s,ω,F⟩
  ·obtain⟨x',G,_⟩:=S;obtain⟨y',a2,Z⟩:=touch_of G;grind
 ·have e:t++#[x,y]=(t++#[x])++#[y]:=by apply Array.ext';simp
  rw[e,Deaf_other (t++#[x]) (g':=j+1) ω #[y] (fun d c=>by grind),Deaf_other t (g':=0) ω #[x] (fun d c=>by grind)];exact h.b k ω
 ·rcases Kx.1 c with c|c
  ·exact h.d d c a
  grind
structure sk (a:Addr) (W:Nat->Prop) (t:Trace) (k r:Nat):Prop where
 d:RelBy a t k r
 c:∀i x,r<i->t.g? i=some k->touchAt t i=some x->x.kind=.atomic/\kU W x.loc
def TL.p{a:Addr}(h:TL W O K base j own ro B t)(P:∀k,base<=k->k<j->∃r,sk a W t (k+1) r)(h0:Deaf t 0=0)(I:y.g=0/\y.act=.mark (.acquire a))(N:a.block<B)
 (hO:∀b,O' b->¬W b) (e1:∀i b,¬own' i b) (e2:∀i b,¬ro' i b):TL W O' K j j own' ro' B (t++#[y]):=by
 have D:∀f∈#[y],f=y:=by intro f d;simpa using d
 have T:∀f∈#[y],∀b:Touch,f.act.touch?=some b->False:=by
  intro f d b w;rw[D f d,I.2] at w;cases w
 have F:∀{i:Nat}{a:Touch},touchAt (t++#[y]) i=some a->touchAt t i=some a:=fun N=>(bk N).elim id fun ⟨f,d,G,_⟩=>(T f d _ G).elim;have L:(t++#[y])[t.size]?=some y:=by rw[Array.getElem?_append_right (yb _)];simp
 have R:∀k,base<=k->k<j->∃r,sk a W t (k+1) r/\HappensBefore (t++#[y]) r t.size:=by
  intro k A C;obtain⟨r,o⟩:=P k A C;have H:=lt_of_act? o.d.act;refine⟨r,o,.single (.inr ⟨.marked H (.inr (by rw[act?_old H];exact o.d.act)) (by rw[act?_of L,I.2]) (fun i _ p e=>?_),(heard_old H).2 o.d.heard,⟨0,by simp[Trace.g?,I.1],by rw[deaf_old (yb _)];exact h0⟩⟩)⟩;rw[act?_old p] at e;obtain⟨f,ho,G⟩:=yE.1 e;exact h.d f (yaj ho) a G
 have w:∀k,base<=k->k<j->∀i,t.g? i=some (k+1)->HappensBefore (t++#[y]) i t.size\/∃r,sk a W t (k+1) r/\r<i:=by
  intro k A C i p;obtain⟨r,o,he⟩:=R k A C;rcases Ks i r with n|rfl|a1
  ·exact .inl (.trans (.single (.inl ⟨n,_,fV p,fV o.d.g⟩)) he)
  ·grind
  ·grind
 have a2:∀i,HappensBefore (t++#[y]) i t.size->Knows (t++#[y]) 0 i:=fun i p=>⟨_,y,L,I.1,.inr p⟩;have E:∀i x,touchAt (t++#[y]) i=some x->x.loc.isMemory=true->Knows (t++#[y]) 0 i\/(x.kind=.atomic/\kU W x.loc):=by
  intro i x M Y;rcases h.m i x (F M) Y with m|m|⟨k,A,C,S⟩
  ·exact .inl (m.app _)
  ·grind
  ·rcases w k A C i S with m|⟨r,o,n⟩
   ·grind
   ·exact .inr (o.c i x n S (F M))
 refine⟨fun Q=>noRace_append (g:=0) (h.c Q) (fun f d=>by grind) (fun i a _ f d b w _=>(T f d b w).elim),seen_app h.f (fun f d=>by rw[D f d,I.2];exact N),
  fun l s i x M Z=>?_,fun l s=>(h.n l s).app fun f d b w _ _=>(T f d b w).elim,fun i p l s=>?_,fun i p l s=>?_,
  fun i a N hW m=>(h.o i a (F N) hW m).app _,fun k A C=>ω,fun i x M Y=>ν,fun i g hg U X=>?_,fun k m=>?_,fun f d a=>?_⟩
 ·rcases E i x M (by rw[Z];exact s.b) with m|⟨_,m⟩
  ·exact m
  ·rw[Z] at m;obtain⟨c,c1,c2⟩:=kU.a m s;exact absurd c1 (hO c c2)
 ·exfalso;cases l <;> first|exact s.elim|exact e1 i _ s
 ·exfalso;cases l <;> first|exact s.elim|exact e2 i _ s
 ·obtain⟨z,hz,rfl⟩:=yE.1 hg;rcases getElem?_append_cases hz with ⟨p,V⟩|⟨_,a0⟩
  ·have v:t.g? i=some z.g:=by simp[Trace.g?,V]
   rcases h.h i z.g v U ((counts_old p).1 X) with ⟨q,q1,q2⟩|⟨k,A,C,S⟩
   ·exact .inl ⟨q,fV q1,hb_app _ q2⟩
   ·rw[S] at v;rcases w k A C i v with m|⟨r,o,n⟩
    ·exact .inl ⟨t.size,by simp[Trace.g?,I.1],m⟩
    ·exact absurd ((counts_old p).1 X) (o.d.after i n v)
  grind
 ·rw[Deaf_other t (g':=0) ω #[y] (fun f d=>by grind)];exact h.b k m
 ·rcases Kx.1 d with d|d
  ·exact h.d f d a
  grind
def TL.enter{f:Nat}(h:TL W O K j j own ro B t)(m:O f):TL (fun b=>W b\/b=f) (fun b=>O b/\b≠f) K j j own ro B t:=by
 refine⟨h.c,h.f,fun l d=>h.e l (d.c fun b c=>c.1),h.n,h.own,h.ro,fun i a e d n=>?_,fun k q p=>ω,fun i a e o=>(h.m i a e o).imp id (Or.imp (fun ⟨x,y⟩=>⟨x,y.c fun b c=>.inl c⟩) id),h.h,h.b,h.d⟩;rcases kU.cases (fun b c=>c) d with d|d
 ·exact h.o i a e d n
 ·exact h.e _ (d.c fun b c=>c▸m) i a e rfl
end
open Go.ConcN (WgLive sumTo upd upd_same upd_ne sumTo_upd sumTo_upd_out sumTo_congr get_map_set get_map_set_same)
open Go.ConcR (KK wgBlock WgAt stA smA rd wr mk Bk g_of_ofEvents ofEvent_loc_mark ofEvent_cell ofEvent_mk loc_of_ofEvent)
variable {j s d B:Nat}{es:Array Event}{fn:FuncId}
abbrev bE:=(Nat->Prop)->World->Prop
def oK:Event->Prop:=fun _=>False
inductive Wk (P:Program) (ty:TypeId) (Wg:Nat) (Q:bE) (K:Nat->Prop):dD->Nat->Nat->(Nat->Prop)->Goroutine->World->Prop
 |idle {f:World->dD}{s d:Nat}{O:Nat->Prop}{g:Goroutine}{w:World} (hs:(s=7/\d=0)\/(s=6/\d=0)\/(2<=s/\s<=5/\d=1)) (hrun:g.status=.running)
  (hgo:∀wL,Rely O K (WgLive ty Wg) w wL->∃g' w' es,stepG P false g wL=.go g' w' es/\Guar O K oK wL w' es/\(s≠7->w'=wL/\es=#[]))
  (h:∀wL g' w' es,Rely O K (WgLive ty Wg) w wL->stepG P false g wL=.go g' w' es->Wk P ty Wg Q K (f wL) s d (grow O wL w') g' w'):Wk P ty Wg Q K (.node f) s d O g w
 |rel {f:World->dD}{O:Nat->Prop}{g:Goroutine}{w:World} (hrun:g.status=.running) (hQ:∀wL,Rely O K (WgLive ty Wg) w wL->Q O wL)
  (hgo:∀wL,Rely O K (WgLive ty Wg) w wL->∃g',stepG P false g wL=.go g' wL #[mk (.releaseMerge (stA Wg))])
  (h:∀wL g' w' es,Rely O K (WgLive ty Wg) w wL->stepG P false g wL=.go g' w' es->Wk P ty Wg Q K (f wL) 6 0 O g' w'):Wk P ty Wg Q K (.node f) 7 0 O g w
 |dis {f:World->dD}{O:Nat->Prop}{g:Goroutine}{w:World} (hrun:g.status=.running)
  (hgo:∀wL,Rely O K (WgLive ty Wg) w wL->∃g',stepG P false g wL=.go g' wL #[mk .disable])
  (h:∀wL g' w' es,Rely O K (WgLive ty Wg) w wL->stepG P false g wL=.go g' w' es->Wk P ty Wg Q K (f wL) 5 1 O g' w'):Wk P ty Wg Q K (.node f) 6 0 O g w
 |add {f:World->dD}{O:Nat->Prop}{g:Goroutine}{w:World} (hrun:g.status=.running)
  (hgo:∀wL,Rely O K (WgLive ty Wg) w wL->∀v wt:Nat,wt<=1->v<2147483647->WgAt ty Wg wL ((v+1) * KK+wt) 0->∃g',stepG P false g wL=.go g' (wL.setCell (stA Wg) (.int .u64 (v * KK+wt))) #[rd (stA Wg),wr (stA Wg)])
  (h4:∀wL g' w' es,Rely O K (WgLive ty Wg) w wL->WgAt ty Wg wL (((0:Nat)+1) * KK+(1:Nat)) 0->stepG P false g wL=.go g' w' es->Wk P ty Wg Q K (f wL) 4 1 O g' w')
  (h1:∀wL g' w' es (v wt:Nat),Rely O K (WgLive ty Wg) w wL->wt<=1->v<2147483647->WgAt ty Wg wL ((v+1) * KK+wt) 0->¬(v=0/\wt=1)->stepG P false g wL=.go g' w' es->Wk P ty Wg Q K (f wL) 1 1 O g' w'):Wk P ty Wg Q K (.node f) 5 1 O g w
 |d2 {f:World->dD}{O:Nat->Prop}{g:Goroutine}{w:World} (hrun:g.status=.running)
  (hgo:∀wL,Rely O K (WgLive ty Wg) w wL->WgAt ty Wg wL 1 0->∃g',stepG P false g wL=.go g' wL #[rd (stA Wg)])
  (h:∀wL g' w' es,Rely O K (WgLive ty Wg) w wL->WgAt ty Wg wL 1 0->stepG P false g wL=.go g' w' es->Wk P ty Wg Q K (f wL) 3 1 O g' w'):Wk P ty Wg Q K (.node f) 4 1 O g w
 |d3 {f:World->dD}{O:Nat->Prop}{g:Goroutine}{w:World} (hrun:g.status=.running)
  (hgo:∀wL,Rely O K (WgLive ty Wg) w wL->WgAt ty Wg wL 1 0->∃g',stepG P false g wL=.go g' (wL.setCell (stA Wg) (.int .u64 0)) #[wr (stA Wg)])
  (h:∀wL g' w' es,Rely O K (WgLive ty Wg) w wL->WgAt ty Wg wL 1 0->stepG P false g wL=.go g' w' es->Wk P ty Wg Q K (f wL) 2 1 O g' w'):Wk P ty Wg Q K (.node f) 3 1 O g w
 |d4 {f:World->dD}{O:Nat->Prop}{g:Goroutine}{w:World} (hrun:g.status=.running) (hmw:mayWake P g=true)
  (hgo:∀wL,Rely O K (WgLive ty Wg) w wL->WgAt ty Wg wL 0 0->∃g',stepG P false g wL=.go g' (wL.setCell (smA Wg) (.int .u32 1)) (semEvents (smA Wg))/\g'.status=.running)
  (h:∀wL g' w' es,Rely O K (WgLive ty Wg) w wL->WgAt ty Wg wL 0 0->stepG P false g wL=.go g' w' es->Wk P ty Wg Q K (f wL) 1 1 O g' w'):Wk P ty Wg Q K (.node f) 2 1 O g w
 |quit {T:dD}{d:Nat}{O:Nat->Prop}{g g':Goroutine}{es:Array Event}{w:World} (hrun:g.status=.running) (hm:∀e∈es,Event.mute e=true) (hst:∀wL,stepG P false g wL=.go g' wL es)
  (h:∀wL,Wk P ty Wg Q K T 1 (deafBehind d es) O g' wL):Wk P ty Wg Q K (.node fun _=>T) 1 d O g w
 |fin {O:Nat->Prop}{g:Goroutine}{w:World} (hf:g.status=.finished):Wk P ty Wg Q K .leaf 1 0 O g w
section
variable {P:Program}{ty:TypeId}{Wg:Nat}{Q:bE}{K:Nat->Prop}
def Wk.b{T:dD}{O:Nat->Prop}{g:Goroutine}{w:World}(h:Wk P ty Wg Q K T s d O g w):(g.status=.running\/g.status=.finished)/\(s≠1->g.status=.running):=by
 cases h with
 |fin h=>grind
 |quit h=>grind
 |idle _ h=>grind
 |rel h=>grind
 |dis h=>grind
 |add h=>grind
 |d2 h=>grind
 |d3 h=>grind
 |d4 h=>grind
def Wk.c:∀{n d:Nat}{g:Goroutine},QuitsD P n d g->∃T,∀(i:TypeId) (k:Nat) (Q:bE) (K O:Nat->Prop) (w:World),Wk P i k Q K T 1 d O g w
 |0,d,g,h=>⟨.leaf,fun _ _ _ _ _ _=>by obtain⟨b,rfl⟩:=h;exact .fin b⟩
 | n + 1, d, g, h => by
   rcases h with ⟨b,rfl⟩|⟨l,o,p,m,c,f⟩
   ·exact⟨.leaf,fun _ _ _ _ _ _=>.fin b⟩
   ·obtain⟨T,e⟩:=Wk.c f;exact⟨.node fun _=>T,fun _ _ _ _ _ _=>.quit l m c fun a=>e _ _ _ _ _ a⟩
def Wk.h{T:dD}{O:Nat->Prop}{g:Goroutine}{w:World}(h:Wk P ty Wg Q K T s d O g w):s=1->∃n,QuitsD P n d g:=by
 induction h with
 |fin h=>exact fun _=>⟨0,h,rfl⟩
 |@quit T d O g e i w a k b _ f=>intro _;obtain⟨n,c⟩:=f default rfl;exact⟨n+1,.inr ⟨a,e,i,k,b,c⟩⟩
 |idle l=>omega
 |_=>omega
def Wk.e{T:dD}{O:Nat->Prop}{g:Goroutine}{w:World}(h:Wk P ty Wg Q K T s d O g w):s=1->∀(c:TypeId) (f:Nat) (o:bE) (k p:Nat->Prop) (m:World),Wk P c f o k T 1 d p g m:=by
 induction h with
 |fin h=>exact fun _ _ _ _ _ _ _=>.fin h
 |@quit T d O g r t w a n i _ l=>intro _ _ _ _ _ _ _;exact .quit a n i fun b=>l b rfl _ _ _ _ _ _
 |idle q=>omega
 |_=>intro e;cases e
end
inductive nX where
 |free|sp|ad|ae|go|an (b:Nat)|w2 (vs:Nat)|w3|w4|ke|aq
def nX.b:nX->Nat
 |.free | .sp | .go | .aq=>0
 |_=>1
def nX.a:nX->Nat
 |.ae | .go=>1
 |_=>0
def nX.open:nX->Prop
 |.sp | .ad | .ae | .go | .an _ | .w2 _=>True
 |_=>False
def nX.fin:nX->Prop
 |.w4 | .ke | .aq=>True
 |_=>False
def Al(ty:TypeId)(Wg:Nat)(tag:nX):World->Prop:=fun w=>tag≠.free->WgLive ty Wg w
def XS(Wg:Nat)(tag:nX):Event->Prop:=fun e=>tag≠.free/\∃a:Addr,a.block=Wg/\(e.loc=.mark (.read a)\/e.loc=.mark (.write a))
inductive aC (P:Program) (ty:TypeId) (Post:Value->World->Prop):Nat->List bE->nX->(Nat->Prop)->(Nat->Prop)->Goroutine->World->Prop
 |idle {Wg:Nat}{Qs:List bE}{tag:nX}{O K:Nat->Prop}{g:Goroutine}{w:World} (hrun:g.status=.running)
  (hgo:∀wL,Rely O K (Al ty Wg tag) w wL->∃g' w' es,stepG P true g wL=.go g' w' es/\Guar O K (XS Wg tag) wL w' es)
  (h:∀wL g' w' es,Rely O K (Al ty Wg tag) w wL->stepG P true g wL=.go g' w' es->aC P ty Post Wg Qs tag (grow O wL w') K g' w'):aC P ty Post Wg Qs tag O K g w
 |fin {Wg:Nat}{O K:Nat->Prop}{g:Goroutine}{w:World} (hrun:g.status=.running)
  (hgo:∀wL,Rely O K (Al ty Wg .free) w wL->∃v es,stepG P true g wL=.ended (.done v) wL es/\(∀e∈es,Ev O K e)/\Post v wL):aC P ty Post Wg [] .free O K g w
 |enter {WgA Wg:Nat}{O K:Nat->Prop}{g:Goroutine}{w:World} (hO:O Wg) (hW:WgAt ty Wg w 0 0) (h:aC P ty Post Wg [] .sp (fun b=>O b/\b≠Wg) K g w):aC P ty Post WgA [] .free O K g w
 |kd {Wg:Nat}{Qs:List bE}{O K:Nat->Prop}{g:Goroutine}{w:World} (hrun:g.status=.running)
  (hgo:∀wL,Rely O K (Al ty Wg .sp) w wL->∃g',stepG P true g wL=.go g' wL #[mk .disable])
  (h:∀wL g' w' es,Rely O K (Al ty Wg .sp) w wL->stepG P true g wL=.go g' w' es->aC P ty Post Wg Qs .ad O K g' w'):aC P ty Post Wg Qs .sp O K g w
 |add {Wg:Nat}{Qs:List bE}{O K:Nat->Prop}{g:Goroutine}{w:World} (hrun:g.status=.running) (hlen:Qs.length<2147483647)
  (hgo:∀wL,Rely O K (Al ty Wg .ad) w wL->∀v:Nat,v<=Qs.length->WgAt ty Wg wL (v * KK) 0->∃g',stepG P true g wL=.go g' (wL.setCell (stA Wg) (.int .u64 ((v+1) * KK))) #[rd (stA Wg),wr (stA Wg)])
  (h:∀wL g' w' es (v:Nat),Rely O K (Al ty Wg .ad) w wL->v<=Qs.length->WgAt ty Wg wL (v * KK) 0->stepG P true g wL=.go g' w' es->aC P ty Post Wg Qs .ae O K g' w'):aC P ty Post Wg Qs .ad O K g w
 |en {Wg:Nat}{Qs:List bE}{O K:Nat->Prop}{g:Goroutine}{w:World} (hrun:g.status=.running)
  (hgo:∀wL,Rely O K (Al ty Wg .ae) w wL->∃g',stepG P true g wL=.go g' wL #[mk .enable])
  (h:∀wL g' w' es,Rely O K (Al ty Wg .ae) w wL->stepG P true g wL=.go g' w' es->aC P ty Post Wg Qs .go O K g' w'):aC P ty Post Wg Qs .ae O K g w
 |go {Wg:Nat}{Qs:List bE}{O K:Nat->Prop}{g:Goroutine}{w:World} (Q:bE) (Bs R:Nat->Prop) (hrun:g.status=.running) (hlen:Qs.length<2147483647)
  (hB:∀b,Bs b->O b) (hR:∀b,R b->O b\/K b) (hBR:∀b,Bs b->¬R b)
  (hgo:∀wL,Rely O K (Al ty Wg .go) w wL->∃g' child,stepG P true g wL=.spawn g' child wL #[])
  (hc:∀wL g' child w' es,Rely O K (Al ty Wg .go) w wL->stepG P true g wL=.spawn g' child w' es->∃T,Wk P ty Wg Q R T 7 0 Bs child wL)
  (h:∀wL g' child w' es,Rely O K (Al ty Wg .go) w wL->stepG P true g wL=.spawn g' child w' es->aC P ty Post Wg (Qs++[Q]) .sp (fun b=>O b/\¬Bs b/\¬R b) (fun b=>K b\/R b) g' w'):aC P ty Post Wg Qs .go O K g w
 |wd {Wg:Nat}{Qs:List bE}{O K:Nat->Prop}{g:Goroutine}{w:World} (hrun:g.status=.running)
  (hgo:∀wL,Rely O K (Al ty Wg .sp) w wL->∃g',stepG P true g wL=.go g' wL #[mk .disable])
  (h:∀wL g' w' es,Rely O K (Al ty Wg .sp) w wL->stepG P true g wL=.go g' w' es->aC P ty Post Wg Qs (.an Qs.length) O K g' w'):aC P ty Post Wg Qs .sp O K g w
 |ld {Wg b:Nat}{Qs:List bE}{O K:Nat->Prop}{g:Goroutine}{w:World} (hrun:g.status=.running)
  (hgo:∀wL,Rely O K (Al ty Wg (.an b)) w wL->∀v:Nat,v<=b->WgAt ty Wg wL (v * KK) 0->∃g',stepG P true g wL=.go g' wL #[rd (stA Wg)])
  (h0:∀wL g' w' es,Rely O K (Al ty Wg (.an b)) w wL->WgAt ty Wg wL ((0:Nat) * KK) 0->stepG P true g wL=.go g' w' es->aC P ty Post Wg Qs .ke O K g' w')
  (h1:∀wL g' w' es (v:Nat),Rely O K (Al ty Wg (.an b)) w wL->1<=v->v<=b->WgAt ty Wg wL (v * KK) 0->stepG P true g wL=.go g' w' es->aC P ty Post Wg Qs (.w2 v) O K g' w'):aC P ty Post Wg Qs (.an b) O K g w
 |cas {Wg vs:Nat}{Qs:List bE}{O K:Nat->Prop}{g:Goroutine}{w:World} (hrun:g.status=.running)
  (hhit:∀wL,Rely O K (Al ty Wg (.w2 vs)) w wL->WgAt ty Wg wL (vs * KK) 0->∃g',stepG P true g wL=.go g' (wL.setCell (stA Wg) (.int .u64 (vs * KK+1))) #[rd (stA Wg),wr (stA Wg)])
  (hmiss:∀wL,Rely O K (Al ty Wg (.w2 vs)) w wL->∀v:Nat,v<vs->WgAt ty Wg wL (v * KK) 0->∃g',stepG P true g wL=.go g' wL #[rd (stA Wg)])
  (h3:∀wL g' w' es,Rely O K (Al ty Wg (.w2 vs)) w wL->WgAt ty Wg wL (vs * KK) 0->stepG P true g wL=.go g' w' es->aC P ty Post Wg Qs .w3 O K g' w')
  (ha:∀wL g' w' es (v:Nat),Rely O K (Al ty Wg (.w2 vs)) w wL->v<vs->WgAt ty Wg wL (v * KK) 0->stepG P true g wL=.go g' w' es->aC P ty Post Wg Qs (.an v) O K g' w'):aC P ty Post Wg Qs (.w2 vs) O K g w
 |sem {Wg:Nat}{Qs:List bE}{O K:Nat->Prop}{g:Goroutine}{w:World} (hrun:g.status=.running) (hoff:g.offers=none)
  (hblk:∀wL,Rely O K (Al ty Wg .w3) w wL->∀st,WgAt ty Wg wL st 0->stepG P true g wL=.go { g with status:=.blocked } wL #[])
  (hgo:∀wL,Rely O K (Al ty Wg .w3) w wL->WgAt ty Wg wL 0 1->∃g',stepG P true g wL=.go g' (wL.setCell (smA Wg) (.int .u32 0)) (semEvents (smA Wg)))
  (h:∀wL g' w' es,Rely O K (Al ty Wg .w3) w wL->WgAt ty Wg wL 0 1->stepG P true g wL=.go g' w' es->aC P ty Post Wg Qs .w4 O K g' w'):aC P ty Post Wg Qs .w3 O K g w
 |l4 {Wg:Nat}{Qs:List bE}{O K:Nat->Prop}{g:Goroutine}{w:World} (hrun:g.status=.running)
  (hgo:∀wL,Rely O K (Al ty Wg .w4) w wL->WgAt ty Wg wL 0 0->∃g',stepG P true g wL=.go g' wL #[rd (stA Wg)])
  (h:∀wL g' w' es,Rely O K (Al ty Wg .w4) w wL->WgAt ty Wg wL 0 0->stepG P true g wL=.go g' w' es->aC P ty Post Wg Qs .ke O K g' w'):aC P ty Post Wg Qs .w4 O K g w
 |ke {Wg:Nat}{Qs:List bE}{O K:Nat->Prop}{g:Goroutine}{w:World} (hrun:g.status=.running)
  (hgo:∀wL,Rely O K (Al ty Wg .ke) w wL->∃g',stepG P true g wL=.go g' wL #[mk .enable])
  (h:∀wL g' w' es,Rely O K (Al ty Wg .ke) w wL->stepG P true g wL=.go g' w' es->aC P ty Post Wg Qs .aq O K g' w'):aC P ty Post Wg Qs .ke O K g w
 |aq {Wg:Nat}{Qs:List bE}{O K:Nat->Prop}{g:Goroutine}{w:World} (hrun:g.status=.running)
  (hgo:∀wL,Rely O K (Al ty Wg .aq) w wL->∃g',stepG P true g wL=.go g' wL #[mk (.acquire (stA Wg))])
  (h:∀wL g' w' es (Os:Nat->Nat->Prop),Rely O K (Al ty Wg .aq) w wL->(∀(i:Nat) (Q:bE),Qs[i]?=some Q->Q (Os i) wL)->(∀i,i<Qs.length->∀b,Os i b->¬O b/\¬K b/\b<wL.heap.size)->
   (∀i k,i<Qs.length->k<Qs.length->i≠k->∀b,Os i b->¬Os k b)->stepG P true g wL=.go g' w' es->aC P ty Post Wg [] .free (fun b=>O b\/∃i,i<Qs.length/\Os i b) K g' w'):aC P ty Post Wg Qs .aq O K g w
structure WS where
 a:Nat
 c:Nat
 e:Nat->Prop
 h:Nat->Prop
 q:bE
 f:World
 b:dD
def oM(d:WS):Nat:=if 5<=d.a then 1 else 0
def Vc(j:Nat)(D:Nat->WS):Nat:=sumTo j fun i=>oM (D i)
def ij(j:Nat)(D:Nat->WS):Prop:=∀i,i<j->(D i).a=7\/(D i).a=6\/(D i).a=5\/(D i).a=1
def dK(j:Nat)(D:Nat->WS):Prop:=∀i,i<j->(D i).a=1
inductive MD (ty:TypeId) (Wg j:Nat) (D:Nat->WS) (w:World):nX->Bool->Prop
 |free:dK j D->MD ty Wg j D w .free false
 |opn {tag:nX}:tag.open->ij j D->(∀b,tag=.an b->Vc j D<=b)->(∀vs,tag=.w2 vs->Vc j D<=vs/\1<=vs)->WgAt ty Wg w (((Vc j D+tag.a:Nat):Int) * KK) 0->MD ty Wg j D w tag false
 |reg {blk:Bool}:ij j D->1<=Vc j D->WgAt ty Wg w (((Vc j D:Nat):Int) * KK+1) 0->MD ty Wg j D w .w3 blk
 |last {blk:Bool} (L:Nat):L<j->((D L).a=4\/(D L).a=3\/(D L).a=2)->(∀i,i<j->i≠L->(D i).a=1)->WgAt ty Wg w (if (D L).a=2 then 0 else 1) 0->MD ty Wg j D w .w3 blk
 |sema:dK j D->WgAt ty Wg w 0 1->MD ty Wg j D w .w3 false
 |fin {tag:nX}:tag.fin->dK j D->WgAt ty Wg w 0 0->MD ty Wg j D w tag false
structure kA (P:Program) (ty:TypeId) (Wg:Nat) (Qs:List bE) (tag:nX) (blk:Bool) (O K:Nat->Prop) (g:Goroutine) (wst:World) (W:Nat->Prop) (base:Nat) (D:Nat->WS) (gs:Array Goroutine) (w:World) (t:Trace):Prop where
 p:gs[0]?=some (if blk then { g with status:=.blocked } else g)
 u:g.status=.running
 v:blk=true->g.offers=none
 a:Rely O K (Al ty Wg tag) wst w
 size:gs.size=base+Qs.length+1
 wk:∀i,i<base+Qs.length->∃x,gs[i+1]?=some x/\Wk P ty Wg (D i).q (D i).h (D i).b (D i).a (D i).c (D i).e x (D i).f
 rely:∀i,base<=i->i<base+Qs.length->Rely (D i).e (D i).h (WgLive ty Wg) (D i).f w
 n:∀i,i<base->(D i).a=1
 qs:∀i,i<Qs.length->Qs[i]?=some (D (base+i)).q
 k:tag=.free->Qs=[]
 y:tag≠.free->W Wg
 b:Ht W O K (base+Qs.length) (fun i=>(D i).e) (fun i=>(D i).h) w.heap.size
 z:TL W O K base (base+Qs.length) (fun i=>(D i).e) (fun i=>(D i).h) w.heap.size t
 h:Deaf t 0=tag.b
 f:∀i,i<base+Qs.length->Deaf t (i+1)=(D i).c
 rel:∀i,base<=i->i<base+Qs.length->(D i).a<=6->∃r,sk (stA Wg) W t (i+1) r
 q:∀i,base<=i->i<base+Qs.length->(D i).a<=6->∀wL,Rely (D i).e (D i).h (WgLive ty Wg) (D i).f wL->(D i).q (D i).e wL
 c:MD ty Wg (base+Qs.length) D w tag blk
 l:Qs.length+tag.a<2147483648
section
variable {P:Program}{ty:TypeId}{Wg:Nat}{Qs:List bE}{tag:nX}{blk:Bool}{O K:Nat->Prop}{g:Goroutine}{wst:World}{W:Nat->Prop}{base:Nat}{D:Nat->WS}{gs:Array Goroutine}{w w':World}{t:Trace}
def MD.at(h:MD ty Wg j D w tag blk)(d:Nat):MD ty Wg j D (w.at d) tag blk:=by
 cases h with
 |free h=>exact .free h
 |opn b a c e f=>exact .opn b a c e f
 |reg b a c=>exact .reg b a c
 |last L b a c e=>exact .last L b a c e
 |sema b a=>exact .sema b a
 |fin b a c=>exact .fin b a c
def MD.h(h:MD ty Wg j D w tag blk)(f:tag≠.free):WgLive ty Wg w:=by
 cases h with
 |free h=>exact absurd rfl f
 |opn c b a e i=>exact⟨_,_,i⟩
 |reg c b a=>exact⟨_,_,a⟩
 |last L c b a e=>exact⟨_,_,e⟩
 |sema c b=>exact⟨_,_,b⟩
 |fin c b a=>exact⟨_,_,a⟩
def MD.block(h:MD ty Wg j D w tag blk)(e:tag≠.free->w'.heap[Wg]?=w.heap[Wg]?):MD ty Wg j D w' tag blk:=by
 cases h with
 |free h=>exact .free h
 |opn a b c f i=>exact .opn a b c f ((e (by rintro rfl;exact a)).trans i)
 |reg a b c=>exact .reg a b ((e ς).trans c)
 |last L a b c f=>exact .last L a b c ((e ς).trans f)
 |sema a b=>exact .sema a ((e ς).trans b)
 |fin a b c=>exact .fin a b ((e (by rintro rfl;exact a)).trans c)
def MD.c(h:MD ty Wg j D w tag blk){a:Bool}(i:a=blk\/a=false):MD ty Wg j D w tag a:=by
 rcases i with rfl|rfl
 ·exact h
 ·cases h with
  |free h=>exact .free h
  |opn c b e f k=>exact .opn c b e f k
  |reg c b e=>exact .reg c b e
  |last L c b e f=>exact .last L c b e f
  |sema c b=>exact .sema c b
  |fin c b e=>exact .fin c b e
def xr{O K:Nat->Prop}{A:World->Prop}(a:∀w d,A w->A (w.at d))(w:World)(d:Nat):Rely O K A w (w.at d):=⟨fun _ _=>rfl,yb _,rfl,a w d⟩
def kA.at(h:kA P ty Wg Qs tag blk O K g wst W base D gs w t)(d:Nat):kA P ty Wg Qs tag blk O K g wst W base D gs (w.at d) t:=
 ⟨h.p,h.u,h.v,h.a.e (xr (fun _ _ x y=>x y) w d),h.size,h.wk,fun i b a=>(h.rely i b a).e (xr (fun _ _ x=>x) w d),h.n,h.qs,h.k,h.y,h.b,h.z,h.h,h.f,h.rel,h.q,h.c.at d,h.l⟩
def oO{g:Nat}{O K W:Nat->Prop}{X:Event->Prop}{k:String}(q:∀b,O b->b<B)(A:∀b,K b->b<B)(h:∀e∈es,Ev O K e\/X e)
 (v:∀e,X e->g=0/\∃a:Addr,W a.block/\a.block<B/\(e.loc=.mark (.read a)\/e.loc=.mark (.write a))):I6 g O K W B (MemOp.ofEvents g fn k es):=by
 intro E p;obtain⟨e,z,rfl⟩:=Conc.mem_ofEvents p;refine⟨rfl,?_⟩;obtain⟨l,n,F⟩:=e;rcases h _ z with f|f
 ·cases l with
  | cell a =>
    refine⟨fun x c=>?_,?_,by simp[MemAct.ofEvent]⟩
    ·simp only[MemAct.ofEvent,MemAct.touch?,yA] at c;subst c;rcases f with f|⟨f,i,_⟩
     ·exact .inr (.inl f)
     ·exact .inr (.inr (.inl ⟨f,i⟩))
    ·exact f.elim (q _) fun x=>A _ x.1
  | obj b =>
    obtain⟨u,o⟩:=f;subst o;refine⟨fun x c=>?_,?_,by cases n <;> simp[MemAct.ofEvent]⟩
    ·cases n <;> (simp only[MemAct.ofEvent,MemAct.touch?,yA] at c;subst c;exact .inr (.inl u))
    ·cases n <;> exact q _ u
  | mark m =>
    have C:=f;subst C;exact⟨fun x c=>by simp[MemAct.ofEvent,MemAct.touch?] at c,trivial,by simp[MemAct.ofEvent]⟩
  |output=>exact⟨fun x c=>by simp only[MemAct.ofEvent,MemAct.touch?,yA] at c;subst c;exact .inl rfl,trivial,by simp[MemAct.ofEvent]⟩
  |goroutines=>exact f.elim
 ·obtain⟨rfl,a,i,r,y⟩:=v _ f;rcases y with rfl|rfl
  ·refine⟨fun x c=>?_,r,by simp[MemAct.ofEvent]⟩;simp only[MemAct.ofEvent,MemAct.touch?,yA] at c;subst c;exact .inr (.inr (.inr ⟨i,ς⟩))
  ·refine⟨fun x c=>?_,r,by simp[MemAct.ofEvent]⟩;simp only[MemAct.ofEvent,MemAct.touch?,yA] at c;subst c;exact .inr (.inr (.inr ⟨i,ς⟩))
def C7{g:Nat}{O K W:Nat->Prop}{c:Nat}{i:String}(l:W c)(o:c<B)(h:∀e∈es,Bk c e):I6 g O K W B (MemOp.ofEvents g fn i es):=by
 intro p k;obtain⟨e,m,rfl⟩:=Conc.mem_ofEvents k;refine⟨rfl,?_⟩;rcases h e m with f|f|⟨a,q,rfl,n⟩
 ·simp only[ofEvent_loc_mark f];exact⟨fun x b=>(by cases b),trivial,ς⟩
 ·simp only[ofEvent_loc_mark f];exact⟨fun x b=>(by cases b),trivial,ς⟩
 ·simp only[ofEvent_cell];refine⟨fun x b=>?_,by show a.block<B;omega,by simp⟩;simp only[MemAct.touch?,yA] at b;subst b;exact .inr (.inr (.inr ⟨by show W _;rw[n];exact l,.inl rfl⟩))
def sk.b{a:Addr}{u:Trace}{k r g:Nat}(h:sk a W t k r)(m:∀e∈u,e.g=g)(p:g≠k):sk a W (t++u) k r:=by
 refine⟨h.d.appOther m p,fun i x q b n=>?_⟩;rcases bk n with c|⟨e,l,_,f⟩
 ·obtain⟨z,o,_⟩:=touch_of c;exact h.c i x q (by rw[<-g?_old (lt_size_of_getElem? o)];exact b) c
 ·simp[Trace.g?,f,m e l] at b;omega
def kA.o(h:kA P ty Wg Qs tag blk O K g wst W base D gs w t){i:Nat}(hi:i<base+Qs.length){x F:Goroutine}{s':WS}(b2:i<base->s'.a=1)
 (hq:s'.q=(D i).q) (T:s'.h=(D i).h) (a0:s'.f=w')
 (G:∀b,b<w.heap.size->¬(D i).e b->¬W b->w'.heap[b]?=w.heap[b]?) (E:w.heap.size<=w') (a5:w'.eo=w.eo) (u:WgLive ty Wg w->WgLive ty Wg w')
 (b1:∀b,s'.e b->(D i).e b\/(w.heap.size<=b/\b<w'.heap.size))
 (a4:Wk P ty Wg s'.q s'.h s'.b s'.a s'.c s'.e F w')
 (a9:TL W O K base (base+Qs.length) (fun k=>(upd D i s' k).e) (fun k=>(D k).h) w'.heap.size (t++MemOp.ofEvents (i+1) x.frame.fn x.frame.place es))
 (M:deafBehind (D i).c es=s'.c)
 (V:base<=i->s'.a<=6->∃r,sk (stA Wg) W (t++MemOp.ofEvents (i+1) x.frame.fn x.frame.place es) (i+1) r)
 (a7:base<=i->s'.a<=6->∀L,Rely s'.e s'.h (WgLive ty Wg) s'.f L->s'.q s'.e L)
 (Q:∀c,(c=blk\/c=false)->(mayWake P x=true->F.status=.running->c=false)->MD ty Wg (base+Qs.length) (upd D i s') w' tag c) :
 ∃c,kA P ty Wg Qs tag c O K g wst W base (upd D i s') ((gs.map (woken P x F w')).setIfInBounds (i+1) F) w' (t++MemOp.ofEvents (i+1) x.frame.fn x.frame.place es):=by
 obtain⟨c,a8,X,a6⟩:∃c:Bool,woken P x F w' (if blk then { g with status:=.blocked } else g)=(if c then { g with status:=.blocked } else g)/\(c=blk\/c=false)/\(mayWake P x=true->F.status=.running->c=false):=by
  cases b0:blk with
  | false =>
    refine⟨_,?_,.inl rfl,fun _ _=>rfl⟩;unfold woken;split
    ·simp[again_running w' (.inl h.u)]
    ·rfl
  | true =>
    by_cases hc:(mayWake P x && F.status != .blocked && F.status != .waiting)=true
    ·refine⟨_,?_,.inr rfl,fun _ _=>rfl⟩;unfold woken;rw[if_pos hc];exact Go.ConcR.again_blocked h.u (h.v b0) w'
    ·refine⟨true,?_,.inl rfl,fun m H=>absurd ν hc⟩;unfold woken;grind
 have Z:∀(v p:Nat->Prop) (A:World->Prop),(∀b,v b\/p b->b<w.heap.size/\¬(D i).e b/\¬W b)->(A w->A w')->Rely v p A w w':=fun v p A m H=>
  ⟨fun b a=>let ⟨a1,a2,a3⟩:=m b a;G b a1 a2 a3,E,a5,H⟩
 refine⟨c,⟨?_,h.u,fun e=>h.v (X.elim (fun x=>x▸e) fun x=>by grind),h.a.e (Z O K _ (fun b a=>?_) fun hA hf=>u (hA hf)),by simp[h.size],fun k f=>?_,fun k N z=>?_,fun k f=>?_,fun k f=>?_,h.k,h.y,?_,?_,?_,fun k f=>?_,fun k N z C=>?_,fun k N z C=>?_,Q c X a6,h.l⟩⟩
 ·rw[get_map_set _ _ _ _ ω,h.p,yp,a8]
 ·refine⟨h.b.a b ν,fun o=>?_,fun e=>?_⟩
  ·exact a.elim (fun x=>(h.b.e i hi b x).1 o) (fun x=>h.b.h i hi b x o)
  ·exact a.elim (h.b.f b e).1 (h.b.f b e).2
 ·by_cases e:k=i
  ·subst e;rw[upd_same,a0];exact⟨F,get_map_set_same _ _ _ (by rw[h.size];omega),a4⟩
  ·obtain⟨y,hy,U⟩:=h.wk k f;rw[upd_ne D _ e];refine⟨y,?_,U⟩;rw[get_map_set _ _ _ _ ω,hy,yp];unfold woken;split
   ·rw[again_running w' U.b.1]
   ·rfl
 ·by_cases e:k=i
  ·subst e;rw[upd_same,a0];exact .c _ _ _ _
  ·rw[upd_ne D _ e];refine(h.rely k N z).e (Z _ _ _ (fun b a=>⟨h.b.d k z b a,fun o=>?_,fun e'=>?_⟩) u)
   ·exact a.elim (fun x=>h.b.l i k hi z (Ne.symm e) b o x) (fun x=>h.b.m i k hi z b o x)
   ·exact a.elim (h.b.c k z b e').1 (h.b.c k z b e').2
 ·by_cases e:k=i
  ·subst e;rw[upd_same];omega
  ·rw[upd_ne D _ e];exact h.n k f
 ·by_cases e:base+k=i
  ·subst e;rw[upd_same,hq];exact h.qs k f
  ·rw[upd_ne D _ e];exact h.qs k f
 ·
  have S:=h.b;have hr:∀k,(upd D i s' k).h=(D k).h:=fun k=>by
   by_cases e:k=i
   ·subst e;rw[upd_same,T]
   ·rw[upd_ne D _ e]
  have o:∀k b,k<base+Qs.length->(upd D i s' k).e b->(D k).e b\/(k=i/\w.heap.size<=b/\b<w'.heap.size):=fun k b _ a=>by
   by_cases e:k=i
   ·subst e;rw[upd_same] at a;grind
   ·rw[upd_ne D _ e] at a;grind
  refine⟨fun b a=>yg (S.a b a) E,fun k f b a=>?_,S.ok,S.f,fun k f b a=>⟨fun n=>?_,fun n=>?_⟩,fun k f b a=>⟨fun n=>?_,fun n=>?_⟩,fun k f b a n=>?_,fun k l f R Y b a n=>?_,fun k l f R b a n=>?_⟩
  ·rcases a with a|a
   ·rcases o k b f a with m|⟨_,_,m⟩
    ·exact yg (S.d k f b (.inl m)) E
    omega
   ·rw[hr] at a;exact yg (S.d k f b (.inr a)) E
  ·rcases o k b f n with m|⟨_,m,_⟩
   ·exact(S.c k f b a).1 m
   ·exact absurd (S.a b (.inr (.inr a))) (xl.2 m)
  ·rw[hr] at n;exact(S.c k f b a).2 n
  ·rcases o k b f n with m|⟨_,m,_⟩
   ·exact(S.e k f b a).1 m
   ·exact absurd (S.a b (.inl a)) (xl.2 m)
  ·rw[hr] at n;exact(S.e k f b a).2 n
  ·rcases o k b f n with m|⟨_,m,_⟩
   ·exact S.h k f b a m
   ·exact absurd (S.a b (.inr (.inl a))) (xl.2 m)
  ·rcases o k b f a with m|⟨e1,m,_⟩
   ·rcases o l b R n with H|⟨_,H,_⟩
    ·exact S.l k l f R Y b m H
    ·exact absurd (S.d k f b (.inl m)) (xl.2 H)
   ·rcases o l b R n with H|⟨e2,H,_⟩
    ·exact absurd (S.d l R b (.inl H)) (xl.2 m)
    ·exact Y (e1.trans e2.symm)
  ·rw[hr] at n;rcases o k b f a with m|⟨_,m,_⟩
   ·exact S.m k l f R b m n
   ·exact absurd (S.d l R b (.inr n)) (xl.2 m)
 ·have hr:(fun k=>(upd D i s' k).h)=fun k=>(D k).h:=by
   funext k;by_cases e:k=i
   ·subst e;rw[upd_same,T]
   ·rw[upd_ne D _ e]
  rw[hr];exact a9
 ·rw[Deaf_other t (g':=i+1) ω _ g_of_ofEvents];exact h.h
 ·by_cases e:k=i
  ·subst e;rw[upd_same,Deaf_own,h.f k f];exact M
  ·rw[upd_ne D _ e,Deaf_other t (g':=i+1) ω _ g_of_ofEvents];exact h.f k f
 ·by_cases e:k=i
  ·subst e;rw[upd_same] at C;exact V N C
  ·rw[upd_ne D _ e] at C;obtain⟨r,hr⟩:=h.rel k N z C;exact⟨r,hr.b g_of_ofEvents ω⟩
 ·by_cases e:k=i
  ·subst e;rw[upd_same] at C ⊢;exact a7 N C
  ·rw[upd_ne D _ e] at C ⊢;exact h.q k N z C
end
end
section
open Go Go.Conc
open Go.ConcN (PermW fork_knows RelBy WgLive sumTo upd upd_same upd_ne sumTo_upd sumTo_upd_out sumTo_congr get_map_set get_map_set_same)
open Go.ConcR (KK wgBlock WgAt stA smA rd wr mk Bk g_of_ofEvents ofEvent_loc_mark ofEvent_cell ofEvent_mk loc_of_ofEvent bk_of_mute WgAt.setSt WgAt.setSm)
open Go.Pm (Rely Guar Ev grow Way)
variable {es:Array Event}{x:Goroutine}{OB Kf:Nat->Prop}
section
variable {ty:TypeId}{Wg j i:Nat}{D:Nat->WS}{w:World}{tag:nX}{blk:Bool}
def MD.d{k:Nat->WS}(c:∀a,a<j->(k a).a=(D a).a)(h:MD ty Wg j D w tag blk):MD ty Wg j k w tag blk:=by
 have m:Vc j k=Vc j D:=sumTo_congr fun a d=>by simp only[oM,c a d]
 have o:ij j D->ij j k:=fun h a d=>by rw[c a d];exact h a d
 have l:dK j D->dK j k:=fun h a d=>by rw[c a d];exact h a d
 cases h with
 |free h=>exact .free (l h)
 |opn b f g n p=>exact .opn b (o f) (by grind) (by grind) (by rw[m];exact p)
 |reg b f g=>exact .reg (o b) (by omega) (by rw[m];exact g)
 |last L b f g n=>exact .last L b (by grind) (fun a d e=>by grind) (by rw[c L b];exact n)
 |sema b f=>exact .sema (l b) f
 |fin b f g=>exact .fin b (l f) g
def iQ(b:WS)(h:b.a=(D i).a):∀a,a<j->(upd D i b a).a=(D a).a:=fun a _=>by
 by_cases e:a=i
 ·subst e;rw[upd_same];exact h
 ·rw[upd_ne D _ e]
def CP(x:WS)(a:i<j):Vc j (upd D i x)+oM (D i)=Vc j D+oM x:=sumTo_upd D x oM a
def iP(x:WS)(b:x.a=7\/x.a=6\/x.a=5\/x.a=1)(h:ij j D):ij j (upd D i x):=fun a c=>by
 by_cases e:a=i
 ·subst e;rw[upd_same];exact b
 ·rw[upd_ne D _ e];exact h a c
def MD.f(h:MD ty Wg j D w tag blk)(f:i<j)(g:5<=(D i).a)(x:WS)(m:x.a=6\/x.a=5):MD ty Wg j (upd D i x) w tag blk:=by
 have k:Vc j (upd D i x)=Vc j D:=by
  have:=CP x f (D:=D);have o:oM (D i)=1:=by simp[oM,g]
  have p:oM x=1:=by rcases m with e|e <;> simp[oM,e]
  omega
 have l:ij j D->ij j (upd D i x):=iP x (by omega);have d:dK j D->False:=fun h=>by have:=h i f;omega
 cases h with
 |free h=>exact(d h).elim
 |opn a b c n g=>exact .opn a (l b) (by grind) (by grind) (by rw[k];exact g)
 |reg a b c=>exact .reg (l a) (by omega) (by rw[k];exact c)
 | last L a b c n =>
   by_cases e:i=L
   ·subst e;omega
   ·have:=c i f e;omega
 |sema a b=>exact(d a).elim
 |fin a b c=>exact(d b).elim
def MD.e(h:MD ty Wg j D w tag blk)(d:i<j)(k:(D i).a=4\/(D i).a=3\/(D i).a=2) :
 tag=.w3/\(∀a,a<j->a≠i->(D a).a=1)/\WgAt ty Wg w (if (D i).a=2 then 0 else 1) 0:=by
 have g:dK j D->False:=fun h=>by have:=h i d;omega
 cases h with
 |free h=>grind
 |opn _ b _ _ _=>have:=b i d;omega
 |reg c _ _=>have:=c i d;omega
 | last L c b f e =>
   grind
 |sema c _=>grind
 |fin _ b _=>grind
def ue:∀(j a:Nat),a<=j->(∀i,i<a->(D i).a=1)->Vc j D<=j - a
 |0,a,d,_=>by simp[Vc,sumTo]
 | j + 1, a, d, h => by
   by_cases e:a=j+1
   ·have:Vc (j+1) D=0:=by
     have b:∀k,k<=j+1->sumTo k (fun i=>oM (D i))=0:=by
      intro k;induction k with
      |zero=>intro _;rfl
      |succ k c=>intro f;simp only[sumTo];rw[c (by omega)];simp[oM,h k (by omega)]
     exact b _ (yb _)
    omega
   ·have:=ue j a (by omega) h;have g:oM (D j)<=1:=by simp only[oM];split <;> omega
    simp only[Vc,sumTo] at this ⊢;omega
def jr:∀{j:Nat},1<=Vc j D->∃i,i<j/\5<=(D i).a
 |0,h=>by simp[Vc,sumTo] at h
 | j + 1, h => by
   by_cases a:5<=(D j).a
   ·grind
   ·obtain⟨i,b,c⟩:=jr (by simpa[Vc,sumTo,oM,a] using h);grind
def oL(h:ij j D)(c:Vc j D=0):dK j D:=fun i b=>by
 have:=ConcN.le_sumTo (f:=fun a=>oM (D a)) b;have d:oM (D i)=0:=by simp only[Vc] at c;omega
 simp only[oM] at d;have:=h i b;grind
end
section
variable {P:Program}{ty:TypeId}{Wg:Nat}{Qs:List bE}{tag:nX}{blk:Bool}{O K:Nat->Prop}{g:Goroutine}{wst:World}{W:Nat->Prop}{base:Nat}{D:Nat->WS}{gs:Array Goroutine}{w w':World}{t:Trace}
def sk.e{a:Addr}{k r d:Nat}(h:sk a W t k r)(s:W Wg)(o:Deaf t k=d)(q:FuncId)(f:String)(c:∀e∈es,Bk Wg e)
 (B:∀j e,es[j]?=some e->(MemAct.ofEvent e).touch?=none\/0<deafBehind d (es.extract 0 j)):sk a W (t++MemOp.ofEvents k q f es) k r:=by
 refine⟨h.d.book o q f c B,fun i x v n y=>?_⟩;rcases bk y with l|⟨F,p,b,_⟩
 ·obtain⟨z,u,_⟩:=touch_of l;exact h.c i x v (by rw[<-g?_old (lt_size_of_getElem? u)];exact n) l
 ·obtain⟨e,A,rfl⟩:=Conc.mem_ofEvents p;rcases c e A with m|m|⟨a,E,rfl,C⟩
  ·simp only[ofEvent_loc_mark m] at b;cases b
  ·simp only[ofEvent_loc_mark m] at b;cases b
  ·simp only[ofEvent_cell,MemAct.touch?,yA] at b;subst b;exact⟨rfl,by show W _;rw[C];exact s⟩
def kA.m(h:kA P ty Wg Qs tag blk O K g wst W base D gs w t){i:Nat}(z:base<=i)(l:i<base+Qs.length){y:Goroutine}
 (f:Aside Wg w w') (F:WgLive ty Wg w->WgLive ty Wg w') (p:∀e∈es,Bk Wg e) (H:∀j e,es[j]?=some e->(MemAct.ofEvent e).touch?=none\/0<deafBehind (D i).c (es.extract 0 j))
 {T:dD}{E v:Nat} (s:(D i).a<=6) (m:deafBehind (D i).c es=v) (B:Wk P ty Wg (D i).q (D i).h T E v (D i).e y w')
 (n:∀a,(a=blk\/a=false)->(mayWake P x=true->y.status=.running->a=false)->MD ty Wg (base+Qs.length) (upd D i { D i with a:=E,c:=v,f:=w',b:=T }) w' tag a) :
 ∃a,kA P ty Wg Qs tag a O K g wst W base (upd D i { D i with a:=E,c:=v,f:=w',b:=T }) ((gs.map (woken P x y w')).setIfInBounds (i+1) y) w' (t++MemOp.ofEvents (i+1) x.frame.fn x.frame.place es):=by
 have o:tag≠.free:=fun e=>by have:=h.k e;grind
 have c:=h.y o;have G:=h.b.a Wg (.inr (.inr c));refine h.o l (fun e=>by omega) rfl rfl rfl (fun b _ _ A=>f.block b fun e=>A (e▸c)) (by rw[f.size];omega) (Go.Pm.oV f.os f.output) F (fun b d=>.inl d) B ?_ m (fun _ _=>?_) (fun _ _ u C=>?_) n
 ·refine h.z.r h.b z l (by rw[f.size];omega) (fun b d=>?_) (fun k e=>by rw[upd_ne D _ e]) ?_
  ·simp only[upd_same] at d;grind
  ·exact C7 c (by rw[f.size];omega) p
 ·obtain⟨r,C⟩:=h.rel i z l s;exact⟨r,C.e c (h.f i l) _ _ p H⟩
 ·refine h.q i z l s u ((h.rely i z l).e (Rely.e ⟨fun b d=>f.block b fun e=>?_,by rw[f.size];omega,(Go.Pm.oV f.os f.output),F⟩ C));subst e;exact d.elim (h.b.c i l b c).1 (h.b.c i l b c).2
def AN(h:Guar OB Kf oK w w' es):∀e∈es,Ev (grow OB w w') Kf e:=fun e a=>(h.c e a).resolve_right id
def zG{e:Event}(h:Ev OB Kf e):e.loc≠.mark .disable/\e.loc≠.mark .enable:=by
 obtain⟨a,d,b⟩:=e;cases a with
 |mark m=>have c:m=.noRoom:=h;grind
 |_=>simp
def uq(h:kA P ty Wg Qs tag blk O K g wst W base D gs w t){i:Nat}(B:i<base+Qs.length)(hx:gs[i+1]?=some x)(Z:x.status=.running)(sl:Option (Nat × Nat)) :
 ∃c s' Q G S,runT P (crowd gs w sl) (i+1)=(.next (crowd Q G sl),S)/\dD.a s'.b (D i).b/\kA P ty Wg Qs tag c O K g wst W base (upd D i s') Q G (t++S):=by
 obtain⟨x',a8,R⟩:=h.wk i B;rw[hx] at a8;cases a8;have p:∀{I:Goroutine}{G:World}{es:Array _}{s':WS},stepG P false x w=.go I G es->dD.a s'.b (D i).b->(∃c,kA P ty Wg Qs tag c O K g wst W base (upd D i s') ((gs.map (woken P x I G)).setIfInBounds (i+1) I) G (t++MemOp.ofEvents (i+1) x.frame.fn x.frame.place es))->
  ∃c s' Q G S,runT P (crowd gs w sl) (i+1)=(.next (crowd Q G sl),S)/\dD.a s'.b (D i).b/\kA P ty Wg Qs tag c O K g wst W base (upd D i s') Q G (t++S):=by
  intro I G es s' A b3 ⟨c,hI⟩;exact⟨c,s',_,G,_,runT_crowd_go hx (by simpa using A),b3,hI⟩
 by_cases hb:base<=i
 ·have a2:tag≠.free:=fun e=>by have:=h.k e;grind
  have a0:=h.y a2;have Y:=h.rely i hb B;obtain⟨T,hT⟩:∃T,(D i).b=T:=⟨_,rfl⟩;rw[hT] at R;obtain⟨s,hs⟩:∃s,(D i).a=s:=⟨_,rfl⟩;rw[hs] at R;obtain⟨dd,n⟩:∃dd,(D i).c=dd:=⟨_,rfl⟩;rw[n] at R;cases R with
  | @idle f s d F E r c3 q A u =>
    obtain⟨I,G,es,H,e2,e3⟩:=A w Y;have X:=u w I G es Y H;by_cases h7:s=7
    ·subst h7;refine p (s':={ D i with e:=grow (D i).e w G,f:=G,b:=f w }) H (by rw[hT];exact .mk f w) (h.o B (fun e=>by omega) rfl rfl rfl (fun b b1 b2 _=>e2.a b b1 b2) e2.size e2.d (fun ⟨st,sm,hl⟩=>⟨st,sm,?_⟩) (fun b C=>C) ?_ ?_ ?_ (fun _ e=>?_) (fun _ e=>?_) fun c m _=>?_)
     ·exact(e2.a Wg (h.b.a Wg (.inr (.inr a0))) (h.b.c i B Wg a0).1).trans hl
     ·show Wk P ty Wg _ _ _ _ _ (grow (D i).e w G) I G;rw[hs,n];exact X
     ·refine h.z.r h.b hb B e2.size (fun b C=>?_) (fun k e=>by rw[upd_ne D _ e]) ?_
      ·simp only[upd_same] at C;exact C.imp id fun x=>x.1
      ·simp only[upd_same];exact oO (X:=oK) (fun b C=>C.elim (fun x=>yg (h.b.d i B b (.inl x)) e2.size) fun x=>x.2) (fun b C=>yg (h.b.d i B b (.inr C)) e2.size) e2.c (fun e j=>j.elim)
     ·exact deafBehind_still (fun e j=>zG (AN e2 e j)) _
     ·grind
     ·exfalso;grind
     ·refine((h.c.c m).block fun _=>?_).d (iQ _ rfl);exact e2.a Wg (h.b.a Wg (.inr (.inr a0))) (h.b.c i B Wg a0).1
    ·obtain⟨rfl,rfl⟩:=e3 h7;rw[Go.Pm.bH _ rfl] at X;refine p H (s':={ D i with a:=s,c:=dd,f:=G,b:=f G }) (by rw[hT];exact .mk f G) (h.m hb B (.refl Wg G) id (by simp) (by simp) (by omega) (by rw[n];rfl) X fun c m _=>(h.c.c m).d (iQ _ hs.symm))
  | @rel f F E r q hQ A u =>
    obtain⟨I,H⟩:=A w Y;have X:=u w I w _ Y H;refine p (s':={ D i with a:=6,c:=0,f:=w,b:=f w }) H (by rw[hT];exact .mk f w) (h.o B (fun e=>by omega) rfl rfl rfl (fun _ _ _ _=>rfl) (yb _) rfl id (fun b C=>.inl C) X ?_ ?_ (fun _ _=>?_) (fun _ _ r c2=>hQ r (Y.e c2)) fun c m _=>(h.c.c m).f B (by omega) _ (.inl rfl))
    ·refine h.z.r h.b hb B (yb _) (fun b C=>?_) (fun k e=>by rw[upd_ne D _ e]) fun op a3=>?_
     ·simp only[upd_same] at C;grind
     ·obtain⟨e,j,rfl⟩:=Conc.mem_ofEvents a3;simp only[Cy,yu] at j;subst j;refine⟨rfl,fun x hx=>?_,?_,by simp[mk,MemAct.ofEvent]⟩
      ·simp[mk,MemAct.ofEvent,MemAct.touch?] at hx
      ·exact h.b.a Wg (.inr (.inr a0))
    ·rw[n];rfl
    ·have c9:=RelBy.new (a:=stA Wg) (k:=i+1) (by rw[h.f i B,n]) x.frame.fn x.frame.place;refine⟨t.size,c9,fun k y hk _ hy=>?_⟩;obtain⟨z,hz,_⟩:=touch_of hy;have:=lt_size_of_getElem? hz;simp[ofEvents_eq] at this;omega
  | @dis f F E r q A u =>
    obtain⟨I,H⟩:=A w Y;have X:=u w I w _ Y H;refine p H (s':={ D i with a:=5,c:=1,f:=w,b:=f w }) (by rw[hT];exact .mk f w) (h.m hb B (.refl Wg w) id (by intro e j;simp at j;subst j;exact .inl rfl) (by intro M e j;match M,j with|0,j=>simp at j;subst j;exact .inl rfl|M+1,j=>grind) (by omega) (by rw[n];rfl) X fun c m _=>(h.c.c m).f B (by omega) _ (.inr rfl))
  | @add f F E r q A c5 b8 =>
    have a1:∀e∈#[rd (stA Wg),wr (stA Wg)],Bk Wg e:=by intro e j;simp at j;rcases j with rfl|rfl <;> exact .inr (.inr ⟨_,_,rfl,rfl⟩)
    have b0:∀M e,#[rd (stA Wg),wr (stA Wg)][M]?=some e->(MemAct.ofEvent e).touch?=none\/0<deafBehind (D i).c (#[rd (stA Wg),wr (stA Wg)].extract 0 M):=by
     rw[n];intro M e j;match M,j with
     |0,_=>exact .inr (by simp[deafBehind])
     |1,_=>exact .inr (by simp[deafBehind,rd])
     |M+2,j=>grind
    have d6:oM (D i)=1:=by simp[oM,hs]
    have d0:Vc (base+Qs.length) D<=Qs.length:=by have:=ue (D:=D) (base+Qs.length) base (by omega) h.n;omega
    have d7:1<=Vc (base+Qs.length) D:=by have:=ConcN.le_sumTo (f:=fun a=>oM (D a)) B;simp only[Vc];omega
    have d1:=h.l;have a6:∀(v wt:Nat),wt<=1->WgAt ty Wg w ((v+1) * KK+wt) 0->v<2147483647->(¬(v=0/\wt=1)->∀c,(c=blk\/c=false)->∀T o,MD ty Wg (base+Qs.length) (upd D i { D i with a:=1,c:=1,f:=o,b:=T }) (w.setCell (stA Wg) (.int .u64 (v * KK+wt))) tag c)->
     ((v=0/\wt=1)->∀c,(c=blk\/c=false)->∀T o,MD ty Wg (base+Qs.length) (upd D i { D i with a:=4,c:=1,f:=o,b:=T }) (w.setCell (stA Wg) (.int .u64 (v * KK+wt))) tag c)->
     ∃c s' Q G S,runT P (crowd gs w sl) (i+1)=(.next (crowd Q G sl),S)/\dD.a s'.b (D i).b/\kA P ty Wg Qs tag c O K g wst W base (upd D i s') Q G (t++S):=by
     intro v wt a9 l hv c6 b4;obtain⟨I,H⟩:=A w Y v wt a9 hv l;have hA:Aside Wg w (w.setCell (stA Wg) (.int .u64 (v * KK+wt))):=aside_setCell w (stA Wg) _;have hL:WgLive ty Wg w->WgLive ty Wg (w.setCell (stA Wg) (.int .u64 (v * KK+wt))):=fun _=>⟨_,_,l.setSt _⟩;by_cases N:v=0/\wt=1
     ·have X:=c5 w I _ _ Y (by obtain⟨rfl,rfl⟩:=N;exact l) H;exact p H (s':={ D i with a:=4,c:=1,f:=w.setCell (stA Wg) (.int .u64 (v * KK+wt)),b:=f w }) (by rw[hT];exact .mk f w) (h.m hb B hA hL a1 b0 (by omega) (by rw[n];rfl) X fun c m _=>b4 N c m _ _)
     ·have X:=b8 w I _ _ v wt Y a9 hv l N H;exact p H (s':={ D i with a:=1,c:=1,f:=w.setCell (stA Wg) (.int .u64 (v * KK+wt)),b:=f w }) (by rw[hT];exact .mk f w) (h.m hb B hA hL a1 b0 (by omega) (by rw[n];rfl) X fun c m _=>c6 N c m _ _)
    have a4:∀(T:dD) (o:World) (s:Nat),s<=4->Vc (base+Qs.length) (upd D i { D i with a:=s,c:=1,f:=o,b:=T })+1=Vc (base+Qs.length) D:=by
     intro T o s d3;have:=CP (D:=D) { D i with a:=s,c:=1,f:=o,b:=T } B;have c0:oM { D i with a:=s,c:=1,f:=o,b:=T }=0:=by simp[oM];omega
     omega
    have a5:=h.c;generalize a7:Vc (base+Qs.length) D=V at *;have d4:¬dK (base+Qs.length) D:=fun hq=>by have:=hq i B;omega
    have c1:tag.a<=1:=by cases tag <;> simp[nX.a]
    cases a5 with
    |free hq=>grind
    | opn h1 h2 h3 h4 h5 =>
      rw[a7] at h3 h4 h5;have c7:V+tag.a - 1<2147483647:=by omega
      refine a6 (V+tag.a - 1) 0 (by omega) (by rw[show ((V+tag.a - 1:Nat):Int)+1=((V+tag.a:Nat):Int) by omega];simpa using h5) c7 (fun _ c m T o=>?_) (fun e=>by omega);have b7:=a4 T o 1 (by omega);have c8:c=false:=m.elim id id;subst c8;refine .opn h1 (iP _ ((by simp)) h2) (fun b e=>?_) (fun vs e=>?_) ?_
      ·grind
      ·grind
      ·have:=h5.setSt (((V+tag.a - 1:Nat):Int) * KK+(0:Nat));rw[show Vc (base+Qs.length) (upd D i { D i with a:=1,c:=1,f:=o,b:=T })+tag.a=V+tag.a - 1 by omega];simpa using this
    | reg h1 h2 h3 =>
      rw[a7] at h2 h3;refine a6 (V - 1) 1 (by omega) (by rw[show ((V - 1:Nat):Int)+1=(V:Int) by omega];simpa using h3) (by omega) (fun d5 c m T o=>?_) (fun j c m T o=>?_)
      ·have b7:=a4 T o 1 (by omega);refine .reg (iP _ ((by simp)) h1) (by omega) ?_;have:=h3.setSt (((V - 1:Nat):Int) * KK+(1:Nat));rw[show Vc (base+Qs.length) (upd D i { D i with a:=1,c:=1,f:=o,b:=T })=V - 1 by omega];simpa using this
      ·have b9:V=1:=by omega
       have hq:∀a,a<base+Qs.length->a≠i->(D a).a=1:=by
        have d8:=a4 T o 1 (by omega);have:=oL (D:=upd D i { D i with a:=1,c:=1,f:=o,b:=T }) (iP _ ((by simp)) h1) (by omega);intro a ha e;have:=this a ha;rwa [upd_ne D _ e] at this
       refine .last i B (by rw[upd_same];simp) (fun a ha e=>by rw[upd_ne D _ e];grind) ?_;rw[upd_same];have:=h3.setSt (((V - 1:Nat):Int) * KK+(1:Nat));subst b9;simpa using this
    | last L h1 h2 h3 h4 =>
      grind
    |sema hq _=>grind
    |fin _ hq _=>grind
  | @d2 f F E r q A u =>
    obtain⟨rfl,U,l⟩:=h.c.e B (by omega);rw[hs] at l;obtain⟨I,H⟩:=A w Y (by simpa using l);have X:=u w I w _ Y (by simpa using l) H;refine p H (s':={ D i with a:=3,c:=1,f:=w,b:=f w }) (by rw[hT];exact .mk f w) (h.m hb B (.refl Wg w) id (by intro e j;simp at j;subst j;exact .inr (.inr ⟨_,_,rfl,rfl⟩)) (by rw[n];intro M e j;match M,j with|0,_=>exact .inr (by simp[deafBehind])|M+1,j=>simp at j) (by omega) (by rw[n];rfl) X fun c m _=>?_);refine .last i B (by rw[upd_same];exact .inr (.inl rfl)) (fun a ha e=>by rw[upd_ne D _ e];exact U a ha e) ?_;rw[upd_same];simpa using l
  | @d3 f F E r q A u =>
    obtain⟨rfl,U,l⟩:=h.c.e B (by omega);rw[hs] at l;obtain⟨I,H⟩:=A w Y (by simpa using l);have X:=u w I _ _ Y (by simpa using l) H;refine p H (s':={ D i with a:=2,c:=1,f:=w.setCell (stA Wg) (.int .u64 0),b:=f w }) (by rw[hT];exact .mk f w) (h.m hb B (aside_setCell w (stA Wg) _) (fun _=>⟨_,_,l.setSt _⟩) (by intro e j;simp at j;subst j;exact .inr (.inr ⟨_,_,rfl,rfl⟩)) (by rw[n];intro M e j;match M,j with|0,_=>exact .inr (by simp[deafBehind])|M+1,j=>simp at j) (by omega) (by rw[n];rfl) X fun c m _=>?_);refine .last i B (by rw[upd_same];exact .inr (.inr rfl)) (fun a ha e=>by rw[upd_ne D _ e];exact U a ha e) ?_;rw[upd_same];simpa using l.setSt 0
  | @d4 f F E r q c4 A u =>
    obtain⟨rfl,U,l⟩:=h.c.e B (by omega);rw[hs] at l;obtain⟨I,H,er⟩:=A w Y (by simpa using l);have X:=u w I _ _ Y (by simpa using l) H;refine p H (s':={ D i with a:=1,c:=1,f:=w.setCell (smA Wg) (.int .u32 1),b:=f w }) (by rw[hT];exact .mk f w) (h.m hb B (aside_setCell w (smA Wg) _) (fun _=>⟨_,_,l.setSm _⟩) ?_ ?_ (by omega) (by rw[n];simp[deafBehind,semEvents]) X fun c m b5=>?_)
    ·intro e j;simp[semEvents] at j;rcases j with rfl|rfl|rfl|rfl
     ·exact .inl rfl
     ·exact .inr (.inr ⟨_,_,rfl,rfl⟩)
     ·exact .inr (.inr ⟨_,_,rfl,rfl⟩)
     ·exact .inr (.inl rfl)
    ·rw[n];intro M e j;match M,j with
     |0,j=>simp[semEvents] at j;subst j;exact .inl rfl
     |1,_=>exact .inr (by simp[deafBehind,semEvents])
     |2,_=>exact .inr (by simp[deafBehind,semEvents])
     |3,j=>simp[semEvents] at j;subst j;exact .inl rfl
     |M+4,j=>simp[semEvents] at j
    ·obtain rfl:=b5 c4 er;refine .sema (fun a ha=>?_) (by simpa using l.setSm 1);by_cases e:a=i
     ·subst e;rw[upd_same]
     ·rw[upd_ne D _ e];exact U a ha e
  | @quit T d F E I es r q hm l u =>
    have a1:∀e∈es,Bk Wg e:=fun e j=>bk_of_mute (hm e j);have b6:∀M e,es[M]?=some e->(MemAct.ofEvent e).touch?=none\/0<deafBehind (D i).c (es.extract 0 M):=fun M e j=>.inl (touch_mute (hm e (yaj j)));refine p (l w) (s':={ D i with a:=1,c:=deafBehind dd es,f:=w,b:=T }) (by rw[hT];exact .mk (fun _=>T) w) (h.m hb B (.refl Wg w) id a1 b6 (by omega) (by rw[n]) (u w) fun c m _=>(h.c.c m).d (iQ _ hs.symm))
  |fin hf=>rw[hf] at Z;cases Z
 ·
  have hs:=h.n i (by omega);obtain⟨T,hT⟩:∃T,(D i).b=T:=⟨_,rfl⟩;rw[hT] at R;rw[hs] at R;obtain⟨dd,n⟩:∃dd,(D i).c=dd:=⟨_,rfl⟩;rw[n] at R;cases R with
  |idle hc=>omega
  | @quit T d F E I es r q hm l u =>
    refine p (l w) (s':={ D i with a:=1,c:=deafBehind dd es,f:=w,b:=T }) (by rw[hT];exact .mk (fun _=>T) w) (h.o B (fun _=>rfl) rfl rfl rfl (fun _ _ _ _=>rfl) (yb _) rfl id (fun b C=>.inl C) (u w) ?_ (by rw[n]) (fun e=>by omega) (fun e=>by omega) fun c m _=>(h.c.c m).d (iQ _ hs.symm));have ho:(fun k=>(upd D i { D i with a:=1,c:=deafBehind dd es,f:=w,b:=T } k).e)=fun k=>(D k).e:=by
     funext k;by_cases e:k=i
     ·subst e;rw[upd_same]
     ·rw[upd_ne D _ e]
    rw[ho];refine h.z.w (g:=i+1) (by omega) fun op a3=>?_;obtain⟨e,j,rfl⟩:=Conc.mem_ofEvents a3;refine⟨rfl,touch_mute (hm e j),low_mute (hm e j) _,fun a ha=>?_⟩;have:=loc_of_ofEvent ha;obtain⟨d2,wr,sy⟩:=e;simp only at this;subst this;have:=hm _ j;simp[Event.mute] at this
  |fin hf=>rw[hf] at Z;cases Z
end
