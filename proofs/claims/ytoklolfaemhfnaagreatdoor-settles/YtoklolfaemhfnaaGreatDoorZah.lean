import Derived.Test.YtoklolfaemhfnaaGreatDoorZag
set_option maxRecDepth 100000
set_option maxHeartbeats 0
set_option linter.defProp false
namespace Go.Pm
section
open Go
variable {r n:Nat}{a:Addr}{C:Perm}
def qx(b c:Perm)(d:Deferred):(d.pm c).pm b=d.pm (b.Mg c):=by let⟨t,a⟩:=d;cases t<;>simp[Deferred.pm,Target.pm,oW,Function.comp_def,pm_comp]
def Bd(b c:Perm)(n:Next):(n.pm c).pm b=n.pm (b.Mg c):=by cases n<;>simp[Next.pm,pm_comp,qx,Function.comp_def]<;>rfl
def Ba(d g:Perm)(h:Halt):(h.pm g).pm d=h.pm (d.Mg g):=by
 cases h with
 |panic v=>simp[Halt.pm,pm_comp]
 |unsupported u=>cases u<;>rfl
 |stuck s=>rfl
 |exit c=>
  by_cases i:c=0
  .subst i;cases e:g.b<;>cases f:d.b<;>simp[Halt.pm,dF,Perm.Mg,e,f]
  cases e:g.b<;>cases f:d.b<;>simp[Halt.pm,dF,Perm.Mg,e,f,i]
 |_=>cases e:g.b<;>cases f:d.b<;>simp[Halt.pm,dF,Perm.Mg,e,f]
def qA(b:Perm)(m:Mark):ee b (dG m)=dG (ee b m):=by cases m<;>rfl
def qz(b c:Perm)(m:Mark):ee b (ee c m)=ee (b.Mg c) m:=by cases m<;>simp[ee,bZ]
def Bc(c d:Perm)(m:Mark):(m.pm d).pm c=m.pm (c.Mg d):=by have e:(c.Mg d).b=(c.b !=d.b):=rfl;unfold Mark.pm;rw[e,<-qz];cases f:d.b<;>cases g:c.b<;>simp[qA,qy]
def uI{c:Perm}(l:∀x,c.f x=C.f x)(e:∀x,c.g x=C.g x)(d:∀x,c.h x=C.h x)(q:c.b=C.b):c=C:=by
 have m:∀x,c.i x=C.i x:=λx=>by rw[<-C.a (c.i x),<-l,c.c]
 have p:∀x,c.j x=C.j x:=λx=>by rw[<-C.d (c.j x),<-e,c.e]
 have o:∀x,c.k x=C.k x:=λx=>by rw[<-C.m (c.k x),<-d,c.l]
 cases c;cases C;obtain rfl:=funext l;obtain rfl:=funext e;obtain rfl:=funext d;obtain rfl:=funext m;obtain rfl:=funext p;obtain rfl:=funext o;grind
def uC(b c:Perm):(b.Mg c).MS=c.MS.Mg b.MS:=
 uI (λ_=>rfl) (λ_=>rfl) (λ_=>rfl) (by grind[Perm.Mg,Perm.MS])
def nw(b c:Perm):b.Mg (b.MS.Mg c)=c:=
 uI (λx=>b.c _) (λx=>b.e _) (λx=>b.l _) (by simp[Perm.Mg,Perm.MS])
def Db{f:Type}{H:Perm->f->f}(g:∀e d a,H e (H d a)=H (e.Mg d) a)(e d:Perm)(s:Sem f):(s.bN d (H d)).bN e (H e)=s.bN (e.Mg d) (H (e.Mg d)):=by
 induction s with
 |pure a=>simp[Sem.bN,g]
 |halt h=>simp[Sem.bN,Ba]
 |store m a v k b=>simp only[Sem.bN,b,bZ,pm_comp]
 |freeze a n k b=>simp only[Sem.bN,b,bZ]
 |setObj r o k b=>simp only[Sem.bN,b,obj_comp];rfl
 |mark m k b=>simp only[Sem.bN,b,Bc]
 |load m a k b=>simp only[Sem.bN,bZ];congr 1;funext v;rw[b,pm_comp,uC]
 |getObj r k b=>simp only[Sem.bN];congr 1;funext o;rw[b,obj_comp,uC]
 |new o k b=>simp only[Sem.bN,obj_comp];congr 1;funext r;rw[b];rfl
 |frozen a k b=>simp only[Sem.bN,bZ];congr 1;funext r;rw[b]
 |shape a k b=>simp only[Sem.bN];congr 1;funext r;rw[b]
 |sys c k b=>rfl
 |_=>simp only[Sem.bN];congr 1;funext r;rename_i b;rw[b]
structure Fam where
 c:Nat->Bool
 leaf:Nat->Bool
 gs:Nat
 d:2<=gs
instance:CoeFun Fam λ_=>Nat->Bool:=⟨Fam.c⟩
instance:Coe Fam (Nat->Bool):=⟨Fam.c⟩
def Fam.b(F:Fam)(r:Nat):Prop:=F.gs+5<=r
def cG(F:Fam)(n:Nat)(C:Perm):Prop:=(∀r,F.b r->r<n->C.f r=r)/\(∀f,F f=true->C.g f=f)/\∀r,C.f r<F.gs↔r<F.gs
def cG.b{F:Fam}{m:Nat}(h:cG F m C)(d:n<=m):cG F n C:=⟨λr b c=>h.1 r b ω,h.2⟩
def kF:Perm:={Perm.id with b:=true}
def G9:Perm:={Perm.id with
 h:=λx=>x^^^1
 k:=λx=>x^^^1
 l:=λn=>by rw[Nat.xor_assoc,Nat.xor_self,Nat.xor_zero]
 m:=λn=>by rw[Nat.xor_assoc,Nat.xor_self,Nat.xor_zero]}
def fG(F:Fam)(n:Nat):cG F n kF:=⟨λ_ _ _=>rfl,λ_ _=>rfl,λ_=>yK⟩
def sD(F:Fam)(n:Nat):cG F n G9:=⟨λ_ _ _=>rfl,λ_ _=>rfl,λ_=>yK⟩
theorem sU(r x y:Nat):(Perm.id.Nn x y).f r=if r=x then y else if r=y then x else r:=rfl
def di{F:Fam}(o:F.gs+5<=n)(h:∀e,cG F n e->e.f r=r):r<n/\F.b r:=by
 have j:=F.d;have b:∀y,y≠r->(∀x,F.b x->x<n->x≠r/\x≠y)->(r<F.gs↔y<F.gs)->False:=by
  intro y i g q;have k:cG F n _:=⟨λx d c=>by
   rw[sU,if_neg (g x d c).1,if_neg (g x d c).2],λ_ _=>rfl,λx=>by
   grind[sU]⟩
  have:=h _ k;rw[sU,if_pos rfl]at this;exact i this
 by_cases p:r<n
 .by_cases l:F.b r
  grind
  exfalso
  unfold Fam.b at l;by_cases m:r<F.gs;refine b (if r=0 then 1 else 0) ν (λx d _=>by grind[Fam.b]) ν;refine b (if r=F.gs then F.gs+1 else F.gs) ν (λx d _=>by grind[Fam.b]) ν
 exact(b (r+1) ω (λx _ c=>by lia) ω).elim
structure Sim(F:Fam)(U:Perm)(w wa:Δ):Prop where
 c:∀(r:Nat)(o:Obj),F.b r->w.heap[r]?=some o->wa.heap[U.f r]?=some (o.pm U)
 g:∀r,r<F.gs+5->U.f r=r
 d:F.gs+5<=w.heap.size
 e:F.gs+5<=wa.heap.size
 os:wa.os=w.os
 tape:∀i q,w.tape (w.drawn+i) q=wa.tape (wa.drawn+i) q
structure Shut(F:Fam)(w:Δ):Prop where
 b:∀C,cG F w.heap.size C->∀(r:Nat)(o:Obj),F.b r->w.heap[r]?=some o->o.pm C=o
section
variable {F:Fam}{w:Δ}
def Shut.c(h:Shut F w){t:ϟ}(b:F.b r):w.heap[r]?≠some (.view a t):=λe=>by have:=h.b _ (sD F _) r _ b e;simp only[Obj.pm,Obj.view.injEq]at this;exact dP t this.2
def Shut.d(h:Shut F w){a:ϡ}{t:ϟ}(b:F.b r):w.heap[r]?≠some (.pending a t):=λe=>by have:=h.b _ (sD F _) r _ b e;simp only[Obj.pm,Obj.pending.injEq]at this;exact dP t this.2
def Shut.e(h:Shut F w){o:Obj}(d:F.b r)(e:w.heap[r]?=some o):o.isChan=false:=by
 cases o with
 |chan c b f i g j=>
  have:=h.b _ (fG F _) r _ d e;simp_all[Obj.pm,kF]
 |_=>rfl
end
structure Ran(F:Fam)(U π':Perm)(w wa w' wa':Δ):Prop where
 d:Sim F π' w' wa'
 m:Shut F w'
 grow:w.heap.size<=w'
 l:wa.heap.size<=wa'
 c:∀r,r<w.heap.size->π'.f r=U.f r
 k:∀r,w.heap.size<=r->r<w'.heap.size->wa.heap.size<=π'.f r
 j:∀b,b<wa.heap.size->(∀r,F.gs+5<=r->r<w.heap.size->U.f r≠b)->wa'.heap[b]?=wa.heap[b]?
 t:∀b,b<F.gs+5->w'.heap[b]?=w.heap[b]?
 tape:w'.tape=w.tape
 o:wa'.tape=wa.tape
 os:w'.os=w.os
 q:wa'.output=wa.output
 e:π'.g=U.g/\π'.h=U.h/\π'.b=U.b
theorem Ran.i{F:Fam}{b:Perm}{w c:Δ}(h:Sim F b w c)(d:Shut F w):Ran F b b w c w c:=
 ⟨h,d,Ϫ,Ϫ,λ_ _=>rfl,λr f e=>ω,λ_ _ _=>rfl,λ_ _=>rfl,rfl,rfl,rfl,rfl,rfl,rfl,rfl⟩
def Ran.s{F:Fam}{s m c:Perm}{w q p g l d:Δ}(h:Ran F s m w q p g)(k:Ran F m c p g l d):Ran F s c w q l d:=by
 refine⟨k.d,k.m,yr h.grow k.grow,yr h.l k.l,λr f=>(k.c r (yg f h.grow)).trans (h.c r f),λr u t=>?_,λb j f=>?_,λb j=>(k.t b j).trans (h.t b j),k.tape.trans h.tape,k.o.trans h.o,k.os.trans h.os,k.q.trans h.q,k.e.1.trans h.e.1,k.e.2.1.trans h.e.2.1,k.e.2.2.trans h.e.2.2⟩
 .by_cases i:r<p
  rw[k.c r i];exact h.k r u i;exact yr h.l (k.k r ω t)
 rw[k.j b (yg j h.l) λr v o e=>?_,h.j b j f];by_cases i:r<w;exact f r v i (by rwa [<-h.c r i]);have:=h.k r ω o;lia
section
variable {F:Fam}{U:Perm}{w wa:Δ}
def Sim.k(h:Sim F U w wa)(c:r<w):U.f r<wa:=by
 by_cases b:F.b r
 have:=h.c r _ b (yl c);grind;have:r<F.gs+5:=by unfold Fam.b at b;lia
 rw[h.g r this];have:=h.e;lia
def Sim.b(h:Sim F U w wa)(r:Nat):U.f r<F.gs↔r<F.gs:=by
 constructor
 .intro b;have:=U.Nd (h.g (U.f r) ω);lia
 intro b;rwa [h.g r ω]
def Sim.j(h:Sim F U w wa){v:Θ}(d:F.b a.block)(b:w.cell? a=some v):wa.cell? (a.pm U)=some (v.pm U):=by unfold World.cell? at b|-;simp only[kB,eR,iR];rcases c:w.heap[a.block]? with _|o;grind;rw[c]at b;rw[h.c _ _ d c];grind[Obj.pm]
def Sim.h(h:Sim F U w wa)(b:a.block<w/\F.b a.block):wa.frozen? (a.pm U)=w.frozen? a:=by unfold World.frozen?;simp only[kB,eR];rw[yl b.1,h.c _ _ b.2 (yl b.1)];cases w.heap[a.block]<;>rfl
def Sim.l(h:Sim F U w wa)(b:r<w/\F.b r):wa.shape? (U.f r)=w.shape? r:=by unfold World.shape?;rw[yl b.1,h.c _ _ b.2 (yl b.1)];cases w.heap[r]<;>simp[Obj.pm]
def Ran.p(h:Sim F U w wa)(l:Shut F w)(k:r<w)(m:F.gs+5<=r){f p:Obj->Obj}(q:∀o,p (o.pm U)=(f o).pm U)(t:∀j,cG F w.heap.size j->∀o,o.pm j=o->(f o).pm j=f o):Ran F U U w wa {w with heap:=w.heap.modify r f} {wa with heap:=wa.heap.modify (U.f r) p}:=by
 refine⟨{h with c:=λx o g c=>?_,d:=ν,e:=ϰ h.e},⟨λj i x o g c=>?_⟩,ς,ς,λ_ _=>rfl,λx y v=>ν,λb s u=>?_,λb s=>?_,rfl,rfl,rfl,rfl,rfl,rfl,rfl⟩;simp only[LI]at c|-;by_cases d:r=x;subst d;simp only[if_true]at c|-;rw[yl k]at c;cases c;rw[h.c _ _ g (yl k)];simp[q];rw[if_neg d]at c;rw[if_neg λe=>d (U.Nd e)];exact h.c _ _ g c;simp only[Array.size_modify]at i;simp only[LI]at c;by_cases d:r=x;subst d;simp only[if_true]at c;rw[yl k]at c;cases c;exact t j i _ (l.b j i _ _ g (yl k));rw[if_neg d]at c;exact l.b j i _ _ g c;grind
 grind
end
variable {v:Θ}{σ:Perm}{es:Array Event}{o:Obj}
def fX(F:Fam)(π:Perm)(n:Nat)(e:Event):Prop:=
 match e.loc with
 |.cell a=>∃r,F.gs+5<=r/\r<n/\π.f r=a.block
 |.obj b=>(∃r,F.gs+5<=r/\r<n/\π.f r=b)/\e.sync=false
 |.mark m=>m=.noRoom
 |.output=>True
 |.goroutines=>False
def fX.b{F:Fam}{n d:Perm}{w p l g:Δ}(h:Ran F n d w p l g){e:Event}(f:fX F n w e):fX F d l e:=by
 let⟨k,s,q⟩:=e;cases k with
 |cell a=>let⟨r,i,c,e⟩:=f;exact⟨r,i,yg c h.grow,by rw[h.c r c,e]⟩
 |obj b=>let⟨⟨r,i,c,e⟩,j⟩:=f;exact⟨⟨r,i,yg c h.grow,by rw[h.c r c,e]⟩,j⟩
 |mark m=>exact f
 |output=>trivial
 |goroutines=>exact f
def xz{h:Halt}(b:h.pm kF=h)(f:h.pm G9=h):(∃v,h=.panic v)\/(∃u,h=.stuck u)\/∃u,h=.unsupported u/\∀g,u≠.initOrder g:=by
 cases h with
 |panic v=>simp
 |stuck u=>simp
 |unsupported u=>
  refine .inr (.inr ⟨u,rfl,λg e=>?_⟩);subst e;simp only[Halt.pm,Halt.unsupported.injEq,Unsupported.initOrder.injEq]at f;exact dP g f
 |exit c=>
  grind[Halt.pm,kF,dF]
 |_=>grind[Halt.pm,kF,dF]
def ec{α:Type}(P:ϛ)(F:Fam)(H:Perm->α->α)(π:Perm)(w wa:Δ)(s:Sem α):Prop:=∀es esa,
 (∀a w' es',s.runT P w es=(.ok a w',es')->∃π' wa' d,(s.bN π (H π)).runT P wa esa=(.ok (H π' a) wa',esa++d)/\Ran F π π' w wa w' wa'/\(∀e∈d,fX F π' w'.heap.size e)/\∀σ,cG F w'.heap.size σ->H σ a=a)/\
 (∀h w' es',s.runT P w es=(.halt h w',es')->(∃v,h=.panic v)\/(∃u,h=.stuck u)\/∃u,h=.unsupported u/\∀g,u≠.initOrder g)
section
variable {α:Type}{P:ϛ}{F:Fam}{H:Perm->α->α}{π:Perm}{w wa:Δ}
def ec.b{πB:Perm}{wL waB:Δ}{s dJ:Sem α}(b:Array Event)(f:Array Event->Array Event)(n:∀m,s.runT P w m=dJ.runT P wL (f m))(A:∀c,(s.bN π (H π)).runT P wa c=(dJ.bN πB (H πB)).runT P waB (c++b))(y:Ran F π πB w wa wL waB)(z:∀e∈b,fX F πB wL e)(h:ec P F H πB wL waB dJ):ec P F H π w wa s:=by
 intro m c;constructor;intro a k g e;rw[n]at e;obtain⟨l,j,d,t,p,u,q⟩:=(h _ _).1 a k g e;refine⟨l,j,_,by rw[A,t,Array.append_assoc],y.s p,λe i=>?_,q⟩;rcases Kx.1 i with i|i;exact(z e i).b p;grind;intro x k g e;rw[n]at e;exact(h _ (c++b)).2 x k g e
def ec.c{s:Sem α}(h:Halt)(k:∀d,∃f b,s.runT P w d=(.halt h f,b))(m:(∃v,h=.panic v)\/(∃u,h=.stuck u)\/∃u,h=.unsupported u/\∀g,u≠.initOrder g):ec P F H π w wa s:=by intro d l;let⟨i,c,j⟩:=k d;constructor;intro a f b e;rw[j]at e;injection e with e1 e2;cases e1;grind
def Shut.f(e:Shut F w)(f:F.b a.block)(b:w.cell? a=some v)(c:cG F w σ):v.pm σ=v:=by
 unfold World.cell? at b;rcases d:w.heap[a.block]? with _|o;grind;have g:=e.b σ c _ _ f d;rw[d]at b;cases o<;>simp only at b<;>try cases b
 by_cases h:a.spot.isSome=true
 grind
 simp only[Obj.pm,Obj.cells.injEq,and_true]at g;grind
def Bh(h:v.pm σ=v):v.pm σ.MS=v:=by grind[zP]
def xA{v:Obj}(h:v.pm σ=v):v.pm σ.MS=v:=by grind[uG]
theorem cF{m:Mode}{k:Sem α}(d:(∀c,v≠.agg c)/\∀c,v≠.tuple c):(Sem.store m a v k).runT P w es=match w.cell? a with
 |some _=>if w.frozen? a then (.halt (.unsupported (.unsafePointer "a write to bytes that a string shares")) w,es) else k.runT P (w.setCell a v) (es.push ⟨.cell a,true,m==.atomic⟩)
 |none=>match w.farStore P a v (m==.atomic)with
   |.ok (w,b)=>k.runT P w (es++b.toArray.map (⟨.cell ·,true,m==.atomic⟩))
   |.error h=>(.halt h w,es):=by
 cases v<;>first|rfl|exact absurd rfl (d.1 _)|exact absurd rfl (d.2 _)
def gQ{k:Obj->Sem α}(b:w.heap[r]?=some o)(d:∀c e f,o≠.cells c e f):(Sem.getObj r k).runT P w es=(k o).runT P w (es.push ⟨.obj r,false,o.isChan⟩):=by simp only[Sem.runT,b]
def gR{b:Obj}{k:Sem α}(d:w.heap[r]?=some o)(g:∀c e f,o≠.cells c e f):(Sem.setObj r b k).runT P w es=k.runT P {w with heap:=w.heap.setIfInBounds r b} (es.push ⟨.obj r,true,b.isChan⟩):=by simp only[Sem.runT,d]
def o5(b:∀c e f,o≠.cells c e f):∀c e f,o.pm π≠.cells c e f:=by cases o<;>simp[Obj.pm];grind
theorem lP(c:Shut F w)(a:Addr)(d:F.b a.block)(b:String):w.noCell a b=.stuck b:=by
 unfold World.noCell;split
 .rename_i h;exact absurd h (c.d d)
 .rename_i h;exact absurd h (c.c d)
 rfl
def oA(hH:∀l j a,H l (H j a)=H (l.Mg j) a):∀(s:Sem α){l:Perm}{w t:Δ},Sim F l w t->Shut F w->(∀j,cG F w j->s.bN j (H j)=s)->ec P F H l w t s:=by
 intro s;induction s with
 |pure a=>
  intro l w t h z B p C;constructor;intro b w' b4 e;obtain⟨⟨rfl,rfl⟩,rfl⟩:=e;exact⟨l,t,#[],by simp[Sem.bN,Sem.runT],Ran.i h z,ς,λj d=>by grind[Sem.bN]⟩;intro b w' b4 e;simp only[Sem.runT,CN]at e;cases e.1
 |halt x=>
  intro l w t h z B;refine ec.c x (λp=>⟨w,p,rfl⟩) (xz ?_ ?_)
  .simp_all[fG,Sem.bN]
  simp_all[sD,Sem.bN]
 |program k D=>
  intro l w t h z B;refine ec.b #[] (λp=>p) (λp=>rfl) (λC=>by simp[Sem.bN,Sem.runT]) (Ran.i h z) ς (D P h z λj d=>?_);have:=B j d;simp only[Sem.bN,Sem.program.injEq]at this;exact congrFun this P
 |mark m k D=>
  intro l w t h z B;have hm:m=.noRoom:=by apply Classical.byContradiction;intro b3;have:=B _ (fG F _);simp only[Sem.bN,Sem.mark.injEq]at this;have h2:=this.1;unfold Mark.pm at h2;rw[(by cases m<;>rfl:ee kF m=m)]at h2;exact uE b3 h2
  subst hm;refine ec.b (waB:=t) (dJ:=k) #[⟨.mark .noRoom,false,true⟩] (λp=>p.push ⟨.mark .noRoom,false,true⟩) (λp=>rfl) (λC=>?_) (Ran.i h z) (λe R=>?_) (D h z λj d=>?_);simp only[Sem.bN,Sem.runT,<-mR];rfl;rw[Le]at R;subst R;rfl;have:=B j d;simp only[Sem.bN,Sem.mark.injEq]at this;exact this.2
 |choose q k D=>
  intro l w t h z B;have I:∀n j,cG F w j->(k n).bN j (H j)=k n:=λn j d=>by have:=B j d;simp only[Sem.bN,Sem.choose.injEq,true_and]at this;exact congrFun this n
  by_cases hq:q.forced=true
  exact ec.b (πB:=l) (wL:=w) (waB:=t) (dJ:=k 0) #[] (λp=>p) (λp=>by simp[Sem.runT,hq]) (λC=>by simp[Sem.bN,Sem.runT,hq]) (Ran.i h z) ς (D 0 h z (I 0));have e:=h.tape 0 q;simp only[GV]at e;have h':Sim F l {w with drawn:=w.drawn+1} {t with drawn:=t.drawn+1}:={h with tape:=λi q=>by have:=h.tape (i+1) q;grind};have a8:Shut F {w with drawn:=w.drawn+1}:=⟨z.b⟩;refine ec.b (πB:=l) (wL:={w with drawn:=w.drawn+1}) (waB:={t with drawn:=t.drawn+1}) (dJ:=k (q.cut (w.tape w.drawn q))) #[] (λp=>p) (λp=>by simp[Sem.runT,hq]) (λC=>by simp[Sem.bN,Sem.runT,hq,e]) ?_ ς (D _ h' a8 (I _));exact⟨h',a8,Ϫ,Ϫ,λ_ _=>rfl,λr h1 h2=>ν,λ_ _ _=>rfl,λ_ _=>rfl,rfl,rfl,rfl,rfl,rfl,rfl,rfl⟩
 |sys c k D=>
  intro l w t h z B;have:=B _ (fG F _);simp only[Sem.bN]at this;cases this
 |load m a k D=>
  intro l w t h z B;have ha:∀j,cG F w j->a.pm j=a/\∀v,(k (v.pm j.MS)).bN j (H j)=k v:=λj d=>by have:=B j d;simp only[Sem.bN,Sem.load.injEq,true_and]at this;exact⟨this.1,λv=>congrFun this.2 v⟩
  have K:a.block<w/\F.b a.block:=di h.d λj d=>congrArg Addr.block (ha j d).1;rcases W:w.cell? a with _|v
  .refine ec.c (.stuck "load: no such cell") (λp=>⟨w,p,?_⟩) ς;have Y:w.farLoad P a (m==.atomic)=.error (.stuck "load: no such cell"):=by
    unfold World.farLoad;split
    .rename_i G;exact absurd G (z.c K.2)
    grind[lP]
   simp only[Sem.runT,W,Y]
  refine ec.b (πB:=l) (wL:=w) (waB:=t) (dJ:=k v) #[⟨.cell (a.pm l),false,m==.atomic⟩] (λp=>p.push ⟨.cell a,false,m==.atomic⟩) (λp=>by simp only[Sem.runT,W]) (λC=>?_) (Ran.i h z) (λe R=>?_) (D v h z λj d=>?_);simp only[Sem.bN,Sem.runT,h.j K.2 W,zP];rfl;rw[Le]at R;subst R;exact⟨a.block,K.2,K.1,rfl⟩;have:=(ha j d).2 v;rwa [Bh (z.f K.2 W d)]at this
 |shape r k D=>
  intro l w t h z B;have E:r<w/\F.b r:=di h.d λj d=>by grind[Sem.bN]
  refine ec.b (πB:=l) (wL:=w) (waB:=t) (dJ:=k (w.shape? r)) #[] (λp=>p) (λp=>rfl) (λC=>by simp[Sem.bN,Sem.runT,h.l E]) (Ran.i h z) ς (D _ h z λj d=>?_);have:=B j d;simp only[Sem.bN,Sem.shape.injEq]at this;exact congrFun this.2 _
 |frozen a k D=>
  intro l w t h z B;refine ec.b (πB:=l) (wL:=w) (waB:=t) (dJ:=k (w.frozen? a)) #[] (λp=>p) (λp=>rfl) (λC=>by simp[Sem.bN,Sem.runT,h.h (di h.d λj d=>by have:=B j d;simp only[Sem.bN,Sem.frozen.injEq]at this;exact congrArg Addr.block this.1)]) (Ran.i h z) ς (D _ h z λj d=>?_);have:=B j d;simp only[Sem.bN,Sem.frozen.injEq]at this;exact congrFun this.2 _
 |freeze a n k D=>
  intro l w t h z B;have E:a.block<w/\F.b a.block:=di h.d λj d=>by have:=B j d;simp only[Sem.bN,Sem.freeze.injEq]at this;exact congrArg Addr.block this.1
  have I:∀j,cG F w j->k.bN j (H j)=k:=λj d=>by have:=B j d;simp only[Sem.bN,Sem.freeze.injEq]at this;exact this.2.2
  by_cases hn:n=0
  exact ec.b (πB:=l) (wL:=w) (waB:=t) (dJ:=k) #[] (λp=>p) (λp=>by simp[Sem.runT,World.freeze,hn]) (λC=>by simp[Sem.bN,Sem.runT,World.freeze,hn]) (Ran.i h z) ς (D h z I);have N:Ran F l l w t (w.freeze a n) (t.freeze (a.pm l) n):=by unfold World.freeze;rw[if_neg hn,if_neg hn];exact Ran.p h z E.1 E.2 (λo=>by cases o<;>rfl) (λj d o ho=>by grind[Obj.pm])
  exact ec.b (πB:=l) (wL:=w.freeze a n) (waB:=t.freeze (a.pm l) n) (dJ:=k) #[] (λp=>p) (λp=>rfl) (λC=>by simp[Sem.bN,Sem.runT]) N ς (D N.d N.m λj d=>I j (by rwa [(by unfold World.freeze;grind:(w.freeze a n).heap.size=w)]at d))
 |getObj r k D=>
  intro l w t h z B;have I:∀j,cG F w j->j.f r=r/\∀o,(k (o.pm j.MS)).bN j (H j)=k o:=λj d=>by have:=B j d;simp only[Sem.bN,Sem.getObj.injEq]at this;exact⟨this.1,λo=>congrFun this.2 o⟩
  have G:r<w∧F.b r:=di h.d λj d=>(I j d).1;have E:=G.1;have Z:=yl E;have X:=h.c _ _ G.2 Z;generalize w.heap[r]=o at Z X;by_cases O:∃c e f,o=.cells c e f;obtain⟨c,e,f,rfl⟩:=O;exact ec.c (.stuck "getObj: a row of cells") (λp=>⟨w,p,by simp only [Sem.runT,Z]⟩) ς;have a3:∀p,((Sem.getObj r k).bN l (H l)).runT P t p=((k o).bN l (H l)).runT P t (p.push ⟨.obj (l.f r),false,(o.pm l).isChan⟩):=λp=>by simp only[Sem.bN];rw[gQ X (o5 λc e f h=>ν),uG]
  refine ec.b (πB:=l) (wL:=w) (waB:=t) (dJ:=k o) #[⟨.obj (l.f r),false,(o.pm l).isChan⟩] (λp=>p.push ⟨.obj r,false,o.isChan⟩) (λp=>gQ Z λc e f h=>ν) (λC=>by rw[a3];rfl) (Ran.i h z) (λe R=>?_) (D o h z λj d=>?_)
  .rw[Le]at R;subst R;refine⟨⟨r,G.2,E,rfl⟩,?_⟩;cases o<;>first|rfl|exact(z.e G.2 Z)
  have:=(I j d).2 o;rwa [xA (z.b j d _ _ G.2 Z)]at this
 |setObj r L k D=>
  intro l w t h z B;have I:∀j,cG F w j->j.f r=r/\L.pm j=L/\k.bN j (H j)=k:=λj d=>by have:=B j d;simp only[Sem.bN,Sem.setObj.injEq]at this;exact this
  have G:r<w∧F.b r:=di h.d λj d=>(I j d).1;have E:=G.1;have Z:=yl E;have X:=h.c _ _ G.2 Z;generalize w.heap[r]=o at Z X;by_cases O:∃c e f,o=.cells c e f;obtain⟨c,e,f,rfl⟩:=O;exact ec.c (.stuck "setObj: a row of cells") (λp=>⟨w,p,by simp only [Sem.runT,Z]⟩) ς;have K:∀p,(Sem.setObj r L k).runT P w p=k.runT P {w with heap:=w.heap.setIfInBounds r L} (p.push ⟨.obj r,true,L.isChan⟩):=λp=>gR Z λc e f h=>ν;have a3:∀p,((Sem.setObj r L k).bN l (H l)).runT P t p=(k.bN l (H l)).runT P {t with heap:=t.heap.setIfInBounds (l.f r) (L.pm l)} (p.push ⟨.obj (l.f r),true,(L.pm l).isChan⟩):=λp=>by simp only[Sem.bN];rw[gR X (o5 λc e f h=>ν)]
  have a1:∀(hp:Array Obj)(x:Nat)(y:Obj),hp.setIfInBounds x y=hp.modify x λ_=>y:=λhp x y=>by grind
  have N:Ran F l l w t {w with heap:=w.heap.setIfInBounds r L} {t with heap:=t.heap.setIfInBounds (l.f r) (L.pm l)}:=by rw[a1,a1];exact Ran.p h z E (G.2) (λ_=>rfl) λj d _ _=>(I j d).2.1
  have b5:(L.pm l).isChan=false:=by
   have:L.isChan=false:=by
    cases L with
    |chan b9 b8 cl st rc tm=>
     have:=(I _ (fG F _)).2.1;simp_all[Obj.pm,kF]
    |_=>rfl
   cases L<;>first|rfl|exact this
  refine ec.b (πB:=l) (dJ:=k) #[⟨.obj (l.f r),true,(L.pm l).isChan⟩] (λp=>p.push ⟨.obj r,true,L.isChan⟩) K (λC=>by rw[a3];rfl) N (λe R=>?_) (D N.d N.m λj d=>(I j (ϰ d)).2.2);rw[Le]at R;subst R;exact⟨⟨r,G.2,ν,rfl⟩,b5⟩
 |store m a v k D=>
  intro l w t h z B;have I:∀j,cG F w j->a.pm j=a/\v.pm j=v/\k.bN j (H j)=k:=λj d=>by have:=B j d;simp only[Sem.bN,Sem.store.injEq,true_and]at this;exact this
  have K:a.block<w/\F.b a.block:=di h.d λj d=>congrArg Addr.block (I j d).1;by_cases G:(∀c,v≠.agg c)/\∀c,v≠.tuple c
  .have b6:(∀c,v.pm l≠.agg c)/\∀c,v.pm l≠.tuple c:=by cases v<;>simp<;>first|grind|grind
   rcases W:w.cell? a with _|u
   .refine ec.c (.stuck "store: no such cell") (λp=>⟨w,p,?_⟩) ς;have Y:w.farStore P a v (m==.atomic)=.error (.stuck "store: no such cell"):=by
     unfold World.farStore;split
     .rename_i G;exact absurd G (z.c K.2)
     grind[lP]
    rw[cF G];simp only[W,Y]
   by_cases hz:w.frozen? a=true
   exact ec.c (.unsupported (.unsafePointer "a write to bytes that a string shares")) (λp=>⟨w,p,by rw [cF G];simp only [W,hz,if_true]⟩) (.inr (.inr ⟨_,rfl,λg e=>by cases e⟩));have b2:¬t.frozen? (a.pm l)=true:=by rwa [h.h K]
   have N:Ran F l l w t (w.setCell a v) (t.setCell (a.pm l) (v.pm l)):=by
    refine Ran.p h z K.1 (K.2) (λo=>?_) λj d o ho=>?_
    .cases o<;>first|rfl|skip
     simp only[Obj.pm,iR,eR];by_cases b7:a.spot.isSome=true;grind;simp_all
    cases o<;>first|exact ho|skip
    rename_i c e fz
    simp only[Obj.pm,Obj.cells.injEq,and_true]at ho|-;grind
   have a2:(w.setCell a v).heap.size=w:=by unfold World.setCell;simp
   refine ec.b (πB:=l) (dJ:=k) #[⟨.cell (a.pm l),true,m==.atomic⟩] (λp=>p.push ⟨.cell a,true,m==.atomic⟩) (λp=>?_) (λC=>?_) N (λe R=>?_) (D N.d N.m λj d=>(I j (by rwa [a2]at d)).2.2);rw[cF G];simp only[W,hz];rfl;simp only[Sem.bN];rw[cF b6];simp only[h.j K.2 W,b2];rfl;rw[Le]at R;subst R;exact⟨a.block,K.2,ω,rfl⟩
  refine ec.c (.stuck "store: not the value of one cell") (λp=>⟨w,p,?_⟩) ς;cases v<;>first|rfl|exact absurd (And.intro (λc e=>(by cases e)) (λc e=>(by cases e))) G
 |new o k D=>
  intro l w t h z B;have I:∀j,cG F w j->o.pm j=o/\∀r,(k (j.i r)).bN j (H j)=k r:=λj d=>by have:=B j d;simp only[Sem.bN,Sem.new.injEq]at this;exact⟨this.1,λr=>congrFun this.2 r⟩
  let A:=l.Nn (l.f w) t
  have b0:A.f w=t:=by show (if l.f w=l.f w then t.heap.size else _)=_;rw[if_pos rfl]
  have S:∀r,r<w.heap.size->A.f r=l.f r:=λr E=>by
   have h1:l.f r≠l.f w.heap.size:=λe=>by simp_all
   have h2:l.f r≠t.heap.size:=ϕ (h.k E);show (if l.f r=l.f w.heap.size then t.heap.size else if l.f r=t.heap.size then _ else l.f r)=l.f r;grind
  have a9:=h.d;have b1:=h.e;have T:∀r,r<F.gs+5->A.f r=r:=λr E=>S r ω▸h.g r E;have U:∀r,A.f r<F.gs↔r<F.gs:=λr=>⟨λE=>ϕ (A.Nd (T (A.f r) ω)),λE=>ν⟩;have d:cG F w.heap.size (l.MS.Mg A):=⟨λr _ E=>by show l.i (A.f r)=r;rw[S r E,l.a],λf _=>l.d f,λr=>by show l.i (A.f r)<F.gs↔r<F.gs;rw[<-U r,<-h.b (l.i (A.f r)),l.c]⟩
  have a6:l.Mg (l.MS.Mg A)=A:=nw l A;have a7:∀x:Obj,x.pm (l.MS.Mg A)=x->x.pm A=x.pm l:=λx V=>by rw[<-a6,<-obj_comp,V]
  have N:Ran F l A w t {w with heap:=w.heap.push o} {t with heap:=t.heap.push (o.pm l)}:=by
   refine⟨⟨λx y a0 V=>?_,T,ν,ν,h.os,h.tape⟩,⟨λj Q x y a0 V=>?_⟩,ς,ς,S,λx h1 h2=>?_,λb hb _=>?_,λb hb=>?_,rfl,rfl,rfl,rfl,rfl,rfl,rfl⟩
   .simp only[Array.getElem?_push]at V|-;by_cases a4:x=w.heap.size;grind;rw[if_neg a4]at V;have a5:x<w:=(yk.1 V).1;rw[S x a5,if_neg (ϕ (h.k a5)),h.c _ _ a0 V,a7 _ (z.b _ d _ _ a0 V)]
   .have M:cG F w.heap.size j:=Q.b ς;simp only[Array.getElem?_push]at V;by_cases a4:x=w.heap.size;grind;rw[if_neg a4]at V;exact z.b j M _ _ a0 V
   grind
   grind
   grind
  refine ec.b (πB:=A) (dJ:=k w.heap.size) #[] (λp=>p) (λp=>rfl) (λC=>?_) N ς (D _ N.d N.m λj Q=>?_)
  .have e1:=(I _ d).2 (l.i t.heap.size);have e2:(l.MS.Mg A).i (l.i t.heap.size)=w.heap.size:=by show A.i (l.f (l.i t.heap.size))=w.heap.size;rw[l.c,<-b0,A.a]
   rw[e2]at e1;simp only[Sem.bN,Sem.runT,Hr];rw[<-e1,Db hH,a6]
  have e1:=(I j (Q.b ς)).2 w.heap.size;have e2:j.i w.heap.size=w.heap.size:=by have:=Q.1 w.heap.size a9 ς;have h3:=j.a w.heap.size;rwa [this]at h3
  rwa [e2]at e1
end
