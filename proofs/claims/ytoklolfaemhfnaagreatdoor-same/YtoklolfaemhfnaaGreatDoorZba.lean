import Derived.Test.YtoklolfaemhfnaaGreatDoorZaz
set_option maxRecDepth 100000
set_option maxHeartbeats 0
set_option linter.defProp false
namespace Go.Cr
section
open Go Go.Conc
open Go.ConcN (WgLive)
open Go.ConcR (KK wgBlock WgAt stA smA rd wr mk DC0 WgAt.setSt WgAt.setSm)
open Go.Pm (Rely Guar Ev grow Way)
variable {O:ϑ}{w:Δ}{g:Goroutine}
section
variable(P:Program)(ty:TypeId)(Wg:Nat)
def E4(g:Goroutine)(w:Δ):Prop:=g.status=.running/\mayWake P g=true/\(WgAt ty Wg w 0 0->∃g',stepG P false g w=.go g' (w.setCell (smA Wg) (.int .u32 1)) (semEvents (smA Wg))/\∃q,QuitsD P q 1 g')
def E3(g:Goroutine)(w:Δ):Prop:=g.status=.running/\(WgAt ty Wg w 1 0->∃g',stepG P false g w=.go g' (w.setCell (stA Wg) (.int .u64 0)) #[wr (stA Wg)]/\∃m,Goes P false (RO ty Wg) DC0 (E4 P ty Wg) m g' (w.setCell (stA Wg) (.int .u64 0)))
def E2(g:Goroutine)(w:Δ):Prop:=g.status=.running/\(WgAt ty Wg w 1 0->∃g',stepG P false g w=.go g' w #[rd (stA Wg)]/\∃m,Goes P false (RO ty Wg) DC0 (E3 P ty Wg) m g' w)
def E1(g:Goroutine)(w:Δ):Prop:=g.status=.running/\∀v wt:Nat,wt<=1->v<2147483647->WgAt ty Wg w ((v+1)*KK+wt) 0->
 ∃g',stepG P false g w=.go g' (w.setCell (stA Wg) (.int .u64 (v*KK+wt))) #[rd (stA Wg),wr (stA Wg)]/\
   ((v=0/\wt=1)->∃m,Goes P false (RO ty Wg) DC0 (E2 P ty Wg) m g' (w.setCell (stA Wg) (.int .u64 (v*KK+wt))))/\(¬(v=0/\wt=1)->∃q,QuitsD P q 1 g')
def EK(g:Goroutine)(w:Δ):Prop:=g.status=.running/\∃g',stepG P false g w=.go g' w #[mk .disable]/\∃m,Goes P false (RO ty Wg) DC0 (E1 P ty Wg) m g' w
def ER(g:Goroutine)(w:Δ):Prop:=g.status=.running/\∃g',stepG P false g w=.go g' w #[mk (.releaseMerge (stA Wg))]/\∃m,Goes P false (RO ty Wg) DC0 (EK P ty Wg) m g' w
end
def ju{P:Program}:∀{n m d:Nat}{g:Goroutine},QuitsD P n d g->n<=m->QuitsD P m d g
 |0,0,_,_,h,_=>h
 |0,m+1,_,_,h,_=>.inl h
 |n+1,0,_,_,_,j=>ω
 |n+1,m+1,_,_,h,j=>h.imp id λ⟨b,c,f,i,e,a⟩=>⟨b,c,f,i,e,ju a ω⟩
section
variable {P:Program}{ty:TypeId}{Wg:Nat}{Q:bE}{K:ϑ}
def xh{K:ϑ}{a:Δ}(h:Rely O K (WgLive ty Wg) w a):RO ty Wg w a:=h.d
def zI{M:dD->Δ->(ϑ)->Goroutine->Ξ}(h:∀a,Rely O K (WgLive ty Wg) w a->∃T,∀c b d,stepG P false g a=.go c b d->M T a (grow O a b) c b):∃f:Δ->dD,∀a c b d,Rely O K (WgLive ty Wg) w a->stepG P false g a=.go c b d->M (f a) a (grow O a b) c b:=by
 refine⟨λa=>open Classical in if e:Rely O K _ w a then Classical.choose (h a e) else .leaf,λa c b d e i=>?_⟩;simp only[dif_pos e];exact Classical.choose_spec (h a e) c b d i
def Wk.f{Stop:(ϑ)->Goroutine->Ξ}(h:Pm.Way P false K (WgLive ty Wg) oK Stop O g w)(k:∀O g w,(∀a,Rely O K (WgLive ty Wg) w a->Stop O g a)->∃T,Wk P ty Wg Q K T 7 0 O g w):∃T,Wk P ty Wg Q K T 7 0 O g w:=by
 induction h with
 |stop h=>simp_all
 |@step O g w c b h q=>
  obtain⟨f,p⟩:=zI λa d=>by obtain⟨l,n,m,j,_⟩:=b a d;obtain⟨T,o⟩:=q a l n m d j;refine⟨T,λt s r i=>?_⟩;rw[j]at i;obtain⟨rfl,rfl,_⟩:=aF i;exact o
  exact⟨.node f,.idle ω c (λa d=>let ⟨l,n,m,j,i⟩:=b a d;⟨l,n,m,j,i,λe=>absurd rfl e⟩) p⟩
def Wk.a{S:Goroutine->Ξ}{s d:Nat}(v:(s=7/\d=0)\/(s=6/\d=0)\/(2<=s/\s<=5/\d=1)){J:Ξ}(x:∀w a,Rely O K (WgLive ty Wg) w a->J w->J a)(k:∀g w,J w->(∀a,RO ty Wg w a->S g a)->∃T,Wk P ty Wg Q K T s d O g w):∀(n:Nat){g:Goroutine}{w:Δ},J w->Goes P false (RO ty Wg) DC0 S n g w->∃T,Wk P ty Wg Q K T s d O g w:=by
 intro n;induction n with
 |zero=>intro g w i h;exact k g w i h
 |succ n m=>
  intro g w i h;rcases h with h|⟨c,h⟩
  .simp_all
  obtain⟨f,u⟩:=zI λa e=>by
   have:=h a (xh e);cases b:stepG P _ g a with
   |go l j z=>
    rw[b,goes_go]at this;obtain⟨⟨rfl,rfl⟩,y⟩:=this;obtain⟨T,r⟩:=m (x _ _ e i) y;refine⟨T,λq p o t=>?_⟩;obtain⟨rfl,rfl,_⟩:=aF t;rw[Pm.bH O rfl];exact r
   |_=>rw[b]at this;exact this.elim
  refine⟨.node f,.idle v c (λa e=>?_) u⟩;have:=h a (xh e);cases b:stepG P _ g a with
  |go l j z=>
   rw[b,goes_go]at this;obtain⟨⟨rfl,rfl⟩,_⟩:=this;exact⟨l,j,#[],rfl,Pm.cN ς,λ_=>⟨rfl,rfl⟩⟩
  |_=>rw[b]at this;exact this.elim
def fQ{C:Ξ}{M:dD->Goroutine->Ξ}(h:∀a,Rely O K (WgLive ty Wg) w a->C a->∃T,∀c b e,stepG P false g a=.go c b e->M T c b):∃f:Δ->dD,∀a c b e,Rely O K (WgLive ty Wg) w a->C a->stepG P false g a=.go c b e->M (f a) c b:=by
 refine⟨λa=>open Classical in if d:Rely O K _ w a/\C a then Classical.choose (h a d.1 d.2) else .leaf,λa c b e d i j=>?_⟩;simp only[dif_pos (And.intro d i)];exact Classical.choose_spec (h a d i) c b e j
def Wk.d{n:Nat}(hQ:∀c,Rely O K (WgLive ty Wg) w c->Q O c)(h:Goes P false (RO ty Wg) DC0 (ER P ty Wg) n g w):∃T,Wk P ty Wg Q K T 7 0 O g w:=by
 have I:∀w c:Δ,Rely O K (WgLive ty Wg) w c->True->True:=λ_ _ _ h=>h;have X:∀g w,True->(∀c,RO ty Wg w c->E4 P ty Wg g c)->∃T,Wk P ty Wg Q K T 2 1 O g w:=λg w _ j=>by
  obtain⟨f,C⟩:=fQ (M:=λT e l=>Wk P ty Wg Q K T 1 1 O e l) λc d z=>by obtain⟨e,i,q,G⟩:=(j c (xh d)).2.2 z;obtain⟨T,A⟩:=Wk.c G;refine⟨T,λr y s B=>?_⟩;rw[i]at B;obtain⟨rfl,rfl,_⟩:=aF B;exact A _ _ _ _ _ _
  refine⟨.node f,.d4 (j w (.a ty Wg w)).1 (j w (.a ty Wg w)).2.1 (λc d z=>?_) C⟩;obtain⟨e,i,q,G⟩:=(j c (xh d)).2.2 z;refine⟨e,i,?_⟩;cases q with
  |zero=>exact absurd G.2 θ
  |succ q=>exact G.elim (λx=>absurd x.2 θ) λx=>x.1
 have k:∀g w,True->(∀c,RO ty Wg w c->E3 P ty Wg g c)->∃T,Wk P ty Wg Q K T 3 1 O g w:=λg w _ j=>by
  obtain⟨f,C⟩:=fQ λc d z=>by obtain⟨e,i,m,B⟩:=(j c (xh d)).2 z;obtain⟨T,A⟩:=Wk.a (.inr (.inr ⟨ω,ω,rfl⟩)) I X m trivial B;refine⟨T,λr y s k=>?_⟩;rw[i]at k;obtain⟨rfl,rfl,_⟩:=aF k;exact A
  exact⟨.node f,.d3 (j w (.a ty Wg w)).1 (λc d z=>let ⟨e,i,_⟩:=(j c (xh d)).2 z;⟨e,i⟩) C⟩
 have B:∀g w,True->(∀c,RO ty Wg w c->E2 P ty Wg g c)->∃T,Wk P ty Wg Q K T 4 1 O g w:=λg w _ j=>by
  obtain⟨f,C⟩:=fQ λc d z=>by obtain⟨e,i,m,B⟩:=(j c (xh d)).2 z;obtain⟨T,A⟩:=Wk.a (.inr (.inr ⟨ω,ω,rfl⟩)) I k m trivial B;refine⟨T,λr y s k=>?_⟩;rw[i]at k;obtain⟨rfl,rfl,_⟩:=aF k;exact A
  exact⟨.node f,.d2 (j w (.a ty Wg w)).1 (λc d z=>let ⟨e,i,_⟩:=(j c (xh d)).2 z;⟨e,i⟩) C⟩
 have i:∀g w,True->(∀c,RO ty Wg w c->E1 P ty Wg g c)->∃T,Wk P ty Wg Q K T 5 1 O g w:=λg w _ j=>by
  obtain⟨f,C⟩:=fQ (C:=λc=>∃v p:Nat,p<=1/\v<2147483647/\WgAt ty Wg c ((v+1)*KK+p) 0)
   (M:=λT e l=>(∃v p:Nat,p<=1/\v<2147483647/\WgAt ty Wg l (v*KK+p) 0/\((v=0/\p=1)->Wk P ty Wg Q K T 4 1 O e l)/\(¬(v=0/\p=1)->Wk P ty Wg Q K T 1 1 O e l))) λc d z=>by obtain⟨v,p,o,E,u⟩:=z;obtain⟨e,i,N,H⟩:=(j c (xh d)).2 v p o E u;by_cases R:v=0/\p=1;obtain⟨m,k⟩:=N R;obtain⟨T,A⟩:=Wk.a (.inr (.inr ⟨ω,ω,rfl⟩)) I B m trivial k;refine⟨T,λr y s k=>?_⟩;rw[i]at k;obtain⟨rfl,rfl,_⟩:=aF k;exact⟨v,p,o,E,u.setSt _,λ_=>A,λh=>absurd R h⟩;obtain⟨q,G⟩:=H R;obtain⟨T,A⟩:=Wk.c G;refine⟨T,λr y s k=>?_⟩;rw[i]at k;obtain⟨rfl,rfl,_⟩:=aF k;exact⟨v,p,o,E,u.setSt _,λh=>absurd h R,λ_=>A _ _ _ _ _ _⟩
  have t:∀{l:Δ}{a b:Int},WgAt ty Wg l a 0->WgAt ty Wg l b 0->a=b:=λH h2=>by unfold WgAt wgBlock at H h2;grind
  refine⟨.node f,.add (j w (.a ty Wg w)).1 (λc d v p o E u=>let ⟨e,i,_⟩:=(j c (xh d)).2 v p o E u;⟨e,i⟩) (λc e l s d u D=>?_) λc e l s v p d o E u Z D=>?_⟩;obtain⟨r,i,_⟩:=(j c (xh d)).2 0 1 ω ω u;obtain⟨v,p,o,E,F,N,H⟩:=C c e l s d ⟨0,1,ω,ω,u⟩ D;rw[i]at D;obtain⟨rfl,rfl,_⟩:=aF D;have:=t F (u.setSt _);simp only[KK]at this;exact N ω;obtain⟨r,i,_⟩:=(j c (xh d)).2 v p o E u;obtain⟨v',W,U,Y,F,N,H⟩:=C c e l s d ⟨v,p,o,E,u⟩ D;rw[i]at D;obtain⟨rfl,rfl,_⟩:=aF D;have:=t F (u.setSt _);simp only[KK]at this;exact H ω
 have V:∀g w,True->(∀c,RO ty Wg w c->EK P ty Wg g c)->∃T,Wk P ty Wg Q K T 6 0 O g w:=λg w _ j=>by
  obtain⟨f,C⟩:=fQ (P:=P) (O:=O) (K:=K) (ty:=ty) (Wg:=Wg) (g:=g) (w:=w) (C:=λ_=>True) (M:=λT e l=>Wk P ty Wg Q K T 5 1 O e l) λc d _=>by obtain⟨_,e,B,m,k⟩:=j c (xh d);obtain⟨T,A⟩:=Wk.a (.inr (.inr ⟨ω,ω,rfl⟩)) I i m trivial k;refine⟨T,λr y s k=>?_⟩;rw[B]at k;obtain⟨rfl,rfl,_⟩:=aF k;exact A
  exact⟨.node f,.dis (j w (.a ty Wg w)).1 (λc d=>let ⟨_,e,i,_⟩:=j c (xh d);⟨e,i⟩) λc e l s d D=>C c e l s d trivial D⟩
 refine Wk.a (J:=λw=>∀c,Rely O K (WgLive ty Wg) w c->Q O c) ω (λw c d S M L=>S M (d.e L)) (λg w S j=>?_) n hQ h;obtain⟨f,C⟩:=fQ (P:=P) (O:=O) (K:=K) (ty:=ty) (Wg:=Wg) (g:=g) (w:=w) (C:=λ_=>True) (M:=λT e l=>Wk P ty Wg Q K T 6 0 O e l) λc d _=>by obtain⟨_,e,B,m,k⟩:=j c (xh d);obtain⟨T,A⟩:=Wk.a ω I V m trivial k;refine⟨T,λr y s k=>?_⟩;rw[B]at k;obtain⟨rfl,rfl,_⟩:=aF k;exact A
 exact⟨.node f,.rel (j w (.a ty Wg w)).1 S (λc d=>let ⟨_,e,i,_⟩:=j c (xh d);⟨e,i⟩) λc e l s d D=>C c e l s d trivial D⟩
end
