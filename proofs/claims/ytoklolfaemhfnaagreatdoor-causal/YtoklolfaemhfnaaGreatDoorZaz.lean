import Derived.Test.YtoklolfaemhfnaaGreatDoorZay
set_option maxRecDepth 100000
set_option maxHeartbeats 0
set_option linter.defProp false
namespace Go.Pm
section
open Go
variable {v:Value}{σ:Perm}{es:Array Event}{o:Obj}{a:Addr}{r:Nat}
def fX(F:Fam)(π:Perm)(n:Nat)(e:Event):Prop:=
 match e.loc with
 |.cell a=>∃r,F.gs+5<=r/\r<n/\π.f r=a.block
 |.obj b=>(∃r,F.gs+5<=r/\r<n/\π.f r=b)/\e.sync=false
 |.mark m=>m=.noRoom
 |.output=>True
 |.goroutines=>False
def fX.b{F:Fam}{n d:Perm}{w p l g:World}(h:Ran F n d w p l g){e:Event}(f:fX F n w.heap.size e):fX F d l.heap.size e:=by
 obtain⟨k,s,q⟩:=e;cases k with
 |cell a=>obtain⟨r,i,c,e⟩:=f;exact⟨r,i,yg c h.grow,by rw[h.c r c,e]⟩
 |obj b=>obtain⟨⟨r,i,c,e⟩,j⟩:=f;exact⟨⟨r,i,yg c h.grow,by rw[h.c r c,e]⟩,j⟩
 |mark m=>exact f
 |output=>trivial
 |goroutines=>exact f
def xz{h:Halt}(b:h.pm kF=h)(f:h.pm G9=h):(∃v,h=.panic v)\/(∃u,h=.stuck u)\/∃u,h=.unsupported u/\∀g,u≠.initOrder g:=by
 cases h with
 |panic v=>simp
 |stuck u=>simp
 | unsupported u =>
   refine .inr (.inr ⟨u,rfl,fun g e=>?_⟩);subst e;simp only[Halt.pm,Halt.unsupported.injEq,Unsupported.initOrder.injEq] at f;exact dP g f
 | exit c =>
   by_cases d:c=0
   ·simp[Halt.pm,kF,dF,d] at b
   ·simp[Halt.pm,kF,dF,d] at b;omega
 |_=>simp[Halt.pm,kF,dF] at b
def ec{α:Type}(P:Program)(F:Fam)(H:Perm->α->α)(π:Perm)(w wa:World)(s:Sem α):Prop:=∀es esa,
 (∀a w' es',s.runT P w es=(.ok a w',es')->∃π' wa' d,(s.bN π (H π)).runT P wa esa=(.ok (H π' a) wa',esa++d)/\Ran F π π' w wa w' wa'/\(∀e∈d,fX F π' w'.heap.size e)/\∀σ,cG F w'.heap.size σ->H σ a=a)/\
 (∀h w' es',s.runT P w es=(.halt h w',es')->(∃v,h=.panic v)\/(∃u,h=.stuck u)\/∃u,h=.unsupported u/\∀g,u≠.initOrder g)
section
variable {α:Type}{P:Program}{F:Fam}{H:Perm->α->α}{π:Perm}{w wa:World}
def ec.b{πB:Perm}{wL waB:World}{s s₁:Sem α}(b:Array Event)(f:Array Event->Array Event)
 (n:∀m,s.runT P w m=s₁.runT P wL (f m)) (A:∀c,(s.bN π (H π)).runT P wa c=(s₁.bN πB (H πB)).runT P waB (c++b))
 (y:Ran F π πB w wa wL waB) (z:∀e∈b,fX F πB wL.heap.size e) (h:ec P F H πB wL waB s₁):ec P F H π w wa s:=by
 intro m c;constructor
 ·intro a k g e;rw[n] at e;obtain⟨l,j,d,t,p,u,q⟩:=(h _ _).1 a k g e;refine⟨l,j,_,by rw[A,t,Array.append_assoc],y.s p,fun e i=>?_,q⟩;rcases Kx.1 i with i|i
  ·exact(z e i).b p
  ·exact u e i
 ·intro x k g e;rw[n] at e;exact(h _ (c++b)).2 x k g e
def ec.c{s:Sem α}(h:Halt)(k:∀d,∃f b,s.runT P w d=(.halt h f,b))(m:(∃v,h=.panic v)\/(∃u,h=.stuck u)\/∃u,h=.unsupported u/\∀g,u≠.initOrder g):ec P F H π w wa s:=by
 intro d l;obtain⟨i,c,j⟩:=k d;constructor
 ·intro a f b e;rw[j] at e;injection e with e1 e2;cases e1
 ·grind
def Shut.f(e:Shut F w)(f:F.b a.block)(b:w.cell? a=some v)(c:cG F w.heap.size σ):v.pm σ=v:=by
 unfold World.cell? at b;cases d:w.heap[a.block]? with
 |none=>grind
 | some o =>
   have g:=e.b σ c _ _ f d;rw[d] at b;cases o <;> simp only at b <;> try cases b
   by_cases h:a.spot.isSome=true
   ·grind
   ·simp only[Obj.pm,Obj.cells.injEq,and_true] at g;grind
def Bh(h:v.pm σ=v):v.pm σ.MS=v:=by
 have:=zP σ v;grind
def xA{v:Obj}(h:v.pm σ=v):v.pm σ.MS=v:=by
 have:=uG σ v;grind
def cF{m:Mode}{k:Sem α}(d:(∀c,v≠.agg c)/\∀c,v≠.tuple c):(Sem.store m a v k).runT P w es=match w.cell? a with
 |some _ => if w.frozen? a then (.halt (.unsupported (.unsafePointer "a write to bytes that a string shares")) w, es) else k.runT P (w.setCell a v) (es.push ⟨.cell a, true, m == .atomic⟩)
 | none => match w.farStore P a v (m == .atomic) with
   |.ok (w,b)=>k.runT P w (es++b.toArray.map (⟨.cell ·,true,m == .atomic⟩))
   |.error h=>(.halt h w,es):=by
 cases v <;> first|rfl|exact absurd rfl (d.1 _)|exact absurd rfl (d.2 _)
def gQ{k:Obj->Sem α}(b:w.heap[r]?=some o)(d:∀c e f,o≠.cells c e f):(Sem.getObj r k).runT P w es=(k o).runT P w (es.push ⟨.obj r,false,o.isChan⟩):=by
 simp only[Sem.runT,b]
def gR{b:Obj}{k:Sem α}(d:w.heap[r]?=some o)(g:∀c e f,o≠.cells c e f):(Sem.setObj r b k).runT P w es=k.runT P { w with heap:=w.heap.setIfInBounds r b } (es.push ⟨.obj r,true,b.isChan⟩):=by
 simp only[Sem.runT,d]
def o5(b:∀c e f,o≠.cells c e f):∀c e f,o.pm π≠.cells c e f:=by
 cases o <;> simp[Obj.pm];grind
def lP(c:Shut F w)(a:Addr)(d:F.b a.block)(b:String):w.noCell a b=.stuck b:=by
 unfold World.noCell;split
 ·rename_i h;exact absurd h (c.d d)
 ·rename_i h;exact absurd h (c.c d)
 ·rfl
def oA(hH:∀l j a,H l (H j a)=H (l.Mg j) a):∀(s:Sem α) {l:Perm}{w t:World},Sim F l w t->Shut F w->(∀j,cG F w.heap.size j->s.bN j (H j)=s)->ec P F H l w t s:=by
 intro s;induction s with
 | pure a =>
   intro l w t h z B p C;constructor
   ·intro b w' b4 e;obtain⟨⟨rfl,rfl⟩,rfl⟩:=e;exact⟨l,t,#[],by simp[Sem.bN,Sem.runT],Ran.i h z,ς,fun j d=>by have:=B j d;simpa[Sem.bN] using this⟩
   ·intro b w' b4 e;simp only[Sem.runT,CN] at e;cases e.1
 | halt x =>
   intro l w t h z B;refine ec.c x (fun p=>⟨w,p,rfl⟩) (xz ?_ ?_)
   ·have:=B _ (fG F _);simpa[Sem.bN] using this
   ·have:=B _ (sD F _);simpa[Sem.bN] using this
 | program k D =>
   intro l w t h z B;refine ec.b #[] (fun p=>p) (fun p=>rfl) (fun C=>by simp[Sem.bN,Sem.runT]) (Ran.i h z) ς (D P h z fun j d=>?_);have:=B j d;simp only[Sem.bN,Sem.program.injEq] at this;exact congrFun this P
 | mark m k D =>
   intro l w t h z B;have hm:m=.noRoom:=by
    apply Classical.byContradiction;intro b3;have:=B _ (fG F _);simp only[Sem.bN,Sem.mark.injEq] at this;have h1:ee kF m=m:=by cases m <;> rfl
    have h2:=this.1;unfold Mark.pm at h2;rw[h1] at h2;exact uE b3 h2
   subst hm;refine ec.b (waB:=t) (s₁:=k) #[⟨.mark .noRoom,false,true⟩] (fun p=>p.push ⟨.mark .noRoom,false,true⟩) (fun p=>rfl) (fun C=>?_) (Ran.i h z) (fun e R=>?_) (D h z fun j d=>?_)
   ·simp only[Sem.bN,Sem.runT,<-mR];rfl
   ·rw[Le] at R;subst R;rfl
   ·have:=B j d;simp only[Sem.bN,Sem.mark.injEq] at this;exact this.2
 | choose q k D =>
   intro l w t h z B;have I:∀n j,cG F w.heap.size j->(k n).bN j (H j)=k n:=fun n j d=>by
    have:=B j d;simp only[Sem.bN,Sem.choose.injEq,true_and] at this;exact congrFun this n
   by_cases hq:q.forced=true
   ·exact ec.b (πB:=l) (wL:=w) (waB:=t) (s₁:=k 0) #[] (fun p=>p) (fun p=>by simp[Sem.runT,hq]) (fun C=>by simp[Sem.bN,Sem.runT,hq]) (Ran.i h z) ς (D 0 h z (I 0))
   ·have e:=h.tape 0 q;simp only[GV] at e;have h':Sim F l { w with drawn:=w.drawn+1 } { t with drawn:=t.drawn+1 }:=⟨h.c,h.g,h.d,h.e,h.os,fun i q=>by have:=h.tape (i+1) q;grind⟩;have a8:Shut F { w with drawn:=w.drawn+1 }:=⟨z.b⟩;refine ec.b (πB:=l) (wL:={ w with drawn:=w.drawn+1 }) (waB:={ t with drawn:=t.drawn+1 }) (s₁:=k (q.cut (w.tape w.drawn q))) #[] (fun p=>p) (fun p=>by simp[Sem.runT,hq]) (fun C=>by simp[Sem.bN,Sem.runT,hq,e]) ?_ ς (D _ h' a8 (I _));exact⟨h',a8,yb _,yb _,fun _ _=>rfl,fun r h1 h2=>ν,fun _ _ _=>rfl,fun _ _=>rfl,rfl,rfl,rfl,rfl,rfl,rfl,rfl⟩
 | sys c k D =>
   intro l w t h z B;have:=B _ (fG F _);simp only[Sem.bN] at this;cases this
 | load m a k D =>
   intro l w t h z B;have ha:∀j,cG F w.heap.size j->a.pm j=a/\∀v,(k (v.pm j.MS)).bN j (H j)=k v:=fun j d=>by
    have:=B j d;simp only[Sem.bN,Sem.load.injEq,true_and] at this;exact⟨this.1,fun v=>congrFun this.2 v⟩
   have K:a.block<w/\F.b a.block:=di h.d fun j d=>congrArg Addr.block (ha j d).1;cases W:w.cell? a with
   | none =>
     refine ec.c (.stuck "load: no such cell") (fun p => ⟨w, p, ?_⟩) ς;have Y : w.farLoad P a (m == .atomic) = .error (.stuck "load: no such cell") := by
      unfold World.farLoad;split
      ·rename_i G;exact absurd G (z.c K.2)
      ·rw[lP z _ K.2]
     simp only[Sem.runT,W,Y]
   | some v =>
     refine ec.b (πB:=l) (wL:=w) (waB:=t) (s₁:=k v) #[⟨.cell (a.pm l),false,m == .atomic⟩] (fun p=>p.push ⟨.cell a,false,m == .atomic⟩) (fun p=>by simp only[Sem.runT,W]) (fun C=>?_) (Ran.i h z) (fun e R=>?_) (D v h z fun j d=>?_)
     ·simp only[Sem.bN,Sem.runT,h.j K.2 W,zP];rfl
     ·rw[Le] at R;subst R;exact⟨a.block,K.2,K.1,rfl⟩
     ·have:=(ha j d).2 v;rwa [Bh (z.f K.2 W d)] at this
 | shape r k D =>
   intro l w t h z B;have E:r<w/\F.b r:=di h.d fun j d=>by have:=B j d;simp only[Sem.bN,Sem.shape.injEq] at this;omega
   refine ec.b (πB:=l) (wL:=w) (waB:=t) (s₁:=k (w.shape? r)) #[] (fun p=>p) (fun p=>rfl) (fun C=>by simp[Sem.bN,Sem.runT,h.l E]) (Ran.i h z) ς (D _ h z fun j d=>?_);have:=B j d;simp only[Sem.bN,Sem.shape.injEq] at this;exact congrFun this.2 _
 | frozen a k D =>
   intro l w t h z B;have E:a.block<w/\F.b a.block:=di h.d fun j d=>by have:=B j d;simp only[Sem.bN,Sem.frozen.injEq] at this;exact congrArg Addr.block this.1
   refine ec.b (πB:=l) (wL:=w) (waB:=t) (s₁:=k (w.frozen? a)) #[] (fun p=>p) (fun p=>rfl) (fun C=>by simp[Sem.bN,Sem.runT,h.h E]) (Ran.i h z) ς (D _ h z fun j d=>?_);have:=B j d;simp only[Sem.bN,Sem.frozen.injEq] at this;exact congrFun this.2 _
 | freeze a n k D =>
   intro l w t h z B;have E:a.block<w/\F.b a.block:=di h.d fun j d=>by have:=B j d;simp only[Sem.bN,Sem.freeze.injEq] at this;exact congrArg Addr.block this.1
   have I:∀j,cG F w.heap.size j->k.bN j (H j)=k:=fun j d=>by have:=B j d;simp only[Sem.bN,Sem.freeze.injEq] at this;exact this.2.2
   by_cases hn:n=0
   ·exact ec.b (πB:=l) (wL:=w) (waB:=t) (s₁:=k) #[] (fun p=>p) (fun p=>by simp[Sem.runT,World.freeze,hn]) (fun C=>by simp[Sem.bN,Sem.runT,World.freeze,hn]) (Ran.i h z) ς (D h z I)
   ·have N:Ran F l l w t (w.freeze a n) (t.freeze (a.pm l) n):=by
     unfold World.freeze;rw[if_neg hn,if_neg hn];exact Ran.p h z E.1 E.2 (fun o=>by cases o <;> rfl) (fun j d o ho=>by cases o <;> simp_all[Obj.pm])
    have a2:(w.freeze a n).heap.size=w.heap.size:=by unfold World.freeze;rw[if_neg hn];simp
    exact ec.b (πB:=l) (wL:=w.freeze a n) (waB:=t.freeze (a.pm l) n) (s₁:=k) #[] (fun p=>p) (fun p=>rfl) (fun C=>by simp[Sem.bN,Sem.runT]) N ς (D N.d N.m fun j d=>I j (by rw[a2] at d;exact d))
 | getObj r k D =>
   intro l w t h z B;have I:∀j,cG F w.heap.size j->j.f r=r/\∀o,(k (o.pm j.MS)).bN j (H j)=k o:=fun j d=>by
    have:=B j d;simp only[Sem.bN,Sem.getObj.injEq] at this;exact⟨this.1,fun o=>congrFun this.2 o⟩
   have G:r<w/\F.b r:=di h.d fun j d=>(I j d).1;have E:=G.1;have Z:=yl E;have X:=h.c _ _ G.2 Z;generalize w.heap[r]=o at Z X;by_cases O:∃c e f,o=.cells c e f
   ·obtain⟨c,e,f,rfl⟩:=O;exact ec.c (.stuck "getObj: a row of cells") (fun p => ⟨w, p, by simp only [Sem.runT, Z]⟩) ς
   ·have K:∀p,(Sem.getObj r k).runT P w p=(k o).runT P w (p.push ⟨.obj r,false,o.isChan⟩):=fun p=>by
     exact gQ Z fun c e f h=>ν
    have a3:∀p,((Sem.getObj r k).bN l (H l)).runT P t p=((k o).bN l (H l)).runT P t (p.push ⟨.obj (l.f r),false,(o.pm l).isChan⟩):=fun p=>by
     simp only[Sem.bN];rw[gQ X (o5 fun c e f h=>ν),uG]
    refine ec.b (πB:=l) (wL:=w) (waB:=t) (s₁:=k o) #[⟨.obj (l.f r),false,(o.pm l).isChan⟩] (fun p=>p.push ⟨.obj r,false,o.isChan⟩) K (fun C=>by rw[a3];rfl) (Ran.i h z) (fun e R=>?_) (D o h z fun j d=>?_)
    ·rw[Le] at R;subst R;refine⟨⟨r,G.2,E,rfl⟩,?_⟩;have W:=z.e G.2 Z;cases o <;> first|rfl|exact W
    ·have:=(I j d).2 o;rwa [xA (z.b j d _ _ G.2 Z)] at this
 | setObj r L k D =>
   intro l w t h z B;have I:∀j,cG F w.heap.size j->j.f r=r/\L.pm j=L/\k.bN j (H j)=k:=fun j d=>by
    have:=B j d;simp only[Sem.bN,Sem.setObj.injEq] at this;exact this
   have G:r<w/\F.b r:=di h.d fun j d=>(I j d).1;have E:=G.1;have Z:=yl E;have X:=h.c _ _ G.2 Z;generalize w.heap[r]=o at Z X;by_cases O:∃c e f,o=.cells c e f
   ·obtain⟨c,e,f,rfl⟩:=O;exact ec.c (.stuck "setObj: a row of cells") (fun p => ⟨w, p, by simp only [Sem.runT, Z]⟩) ς
   ·have K:∀p,(Sem.setObj r L k).runT P w p=k.runT P { w with heap:=w.heap.setIfInBounds r L } (p.push ⟨.obj r,true,L.isChan⟩):=fun p=>by
     exact gR Z fun c e f h=>ν
    have a3:∀p,((Sem.setObj r L k).bN l (H l)).runT P t p=(k.bN l (H l)).runT P { t with heap:=t.heap.setIfInBounds (l.f r) (L.pm l) } (p.push ⟨.obj (l.f r),true,(L.pm l).isChan⟩):=fun p=>by
     simp only[Sem.bN];rw[gR X (o5 fun c e f h=>ν)]
    have a1:∀(hp:Array Obj) (x:Nat) (y:Obj),hp.setIfInBounds x y=hp.modify x fun _=>y:=fun hp x y=>by
     grind
    have N:Ran F l l w t { w with heap:=w.heap.setIfInBounds r L } { t with heap:=t.heap.setIfInBounds (l.f r) (L.pm l) }:=by
     rw[a1,a1];exact Ran.p h z E (G.2) (fun _=>rfl) (fun j d _ _=>(I j d).2.1)
    have b5:(L.pm l).isChan=false:=by
     have:L.isChan=false:=by
      cases L with
      | chan b9 b8 cl st rc tm =>
        have:=(I _ (fG F _)).2.1;simp only[Obj.pm,Obj.chan.injEq] at this;exact absurd this.2.2.1 (by simp[kF])
      |_=>rfl
     cases L <;> first|rfl|exact this
    refine ec.b (πB:=l) (s₁:=k) #[⟨.obj (l.f r),true,(L.pm l).isChan⟩] (fun p=>p.push ⟨.obj r,true,L.isChan⟩) K (fun C=>by rw[a3];rfl) N (fun e R=>?_) (D N.d N.m fun j d=>(I j (by simpa using d)).2.2);rw[Le] at R;subst R;exact⟨⟨r,G.2,ν,rfl⟩,b5⟩
 | store m a v k D =>
   intro l w t h z B;have I:∀j,cG F w.heap.size j->a.pm j=a/\v.pm j=v/\k.bN j (H j)=k:=fun j d=>by
    have:=B j d;simp only[Sem.bN,Sem.store.injEq,true_and] at this;exact this
   have K:a.block<w/\F.b a.block:=di h.d fun j d=>congrArg Addr.block (I j d).1;have E:=K.1;by_cases G:(∀c,v≠.agg c)/\∀c,v≠.tuple c
   ·have b6:(∀c,v.pm l≠.agg c)/\∀c,v.pm l≠.tuple c:=by
     cases v <;> simp <;> first|grind|grind
    cases W:w.cell? a with
    | none =>
      refine ec.c (.stuck "store: no such cell") (fun p => ⟨w, p, ?_⟩) ς;have Y : w.farStore P a v (m == .atomic) = .error (.stuck "store: no such cell") := by
       unfold World.farStore;split
       ·rename_i G;exact absurd G (z.c K.2)
       ·rw[lP z _ K.2]
      rw[cF G];simp only[W,Y]
    | some u =>
      by_cases hz:w.frozen? a=true
      ·exact ec.c (.unsupported (.unsafePointer "a write to bytes that a string shares")) (fun p => ⟨w, p, by rw [cF G]; simp only [W, hz, if_true]⟩) (.inr (.inr ⟨_, rfl, fun g e => by cases e⟩))
      ·have b2:¬t.frozen? (a.pm l)=true:=by rw[h.h K];exact hz
       have N:Ran F l l w t (w.setCell a v) (t.setCell (a.pm l) (v.pm l)):=by
        refine Ran.p h z E (K.2) (fun o=>?_) (fun j d o ho=>?_)
        ·cases o <;> first|rfl|skip
         simp only[Obj.pm,iR,eR];by_cases b7:a.spot.isSome=true
         ·grind
         simp_all
        ·cases o <;> first|exact ho|skip
         rename_i c e fz
         simp only[Obj.pm,Obj.cells.injEq,and_true] at ho ⊢;grind
       have a2:(w.setCell a v).heap.size=w.heap.size:=by unfold World.setCell;simp
       refine ec.b (πB:=l) (s₁:=k) #[⟨.cell (a.pm l),true,m == .atomic⟩] (fun p=>p.push ⟨.cell a,true,m == .atomic⟩) (fun p=>?_) (fun C=>?_) N (fun e R=>?_) (D N.d N.m fun j d=>(I j (by rw[a2] at d;exact d)).2.2)
       ·rw[cF G];simp only[W,hz];rfl
       ·simp only[Sem.bN];rw[cF b6];simp only[h.j K.2 W,b2];rfl
       ·rw[Le] at R;subst R;exact⟨a.block,K.2,ω,rfl⟩
   ·refine ec.c (.stuck "store: not the value of one cell") (fun p => ⟨w, p, ?_⟩) ς;cases v <;> first|rfl|exact absurd (And.intro (fun c e=>(by cases e)) (fun c e=>(by cases e))) G
 | new o k D =>
   intro l w t h z B;have I:∀j,cG F w.heap.size j->o.pm j=o/\∀r,(k (j.i r)).bN j (H j)=k r:=fun j d=>by
    have:=B j d;simp only[Sem.bN,Sem.new.injEq] at this;exact⟨this.1,fun r=>congrFun this.2 r⟩
   let A:=l.Nn (l.f w.heap.size) t.heap.size
   have b0:A.f w.heap.size=t.heap.size:=by show (if l.f w.heap.size=l.f w.heap.size then t.heap.size else _)=_;rw[if_pos rfl]
   have S:∀r,r<w.heap.size->A.f r=l.f r:=fun r E=>by
    have h1:l.f r≠l.f w.heap.size:=fun e=>by simp_all
    have h2:l.f r≠t.heap.size:=by have:=h.k E;omega
    show (if l.f r=l.f w.heap.size then t.heap.size else if l.f r=t.heap.size then _ else l.f r)=l.f r;grind
   have a9:=h.d;have b1:=h.e;have T:∀r,r<F.gs+5->A.f r=r:=fun r E=>by rw[S r ω];exact h.g r E
   have U:∀r,A.f r<F.gs↔r<F.gs:=fun r=>⟨fun E=>by have:=A.Nd (T (A.f r) ω);omega,fun E=>ν⟩;have d:cG F w.heap.size (l.MS.Mg A):=⟨fun r _ E=>by show l.i (A.f r)=r;rw[S r E,l.a],fun f _=>l.d f,fun r=>by
    show l.i (A.f r)<F.gs↔r<F.gs;rw[<-U r,<-h.b (l.i (A.f r)),l.c]⟩
   have a6:l.Mg (l.MS.Mg A)=A:=nw l A;have a7:∀x:Obj,x.pm (l.MS.Mg A)=x->x.pm A=x.pm l:=fun x V=>by
    rw[<-a6,<-obj_comp,V]
   have N:Ran F l A w t { w with heap:=w.heap.push o } { t with heap:=t.heap.push (o.pm l) }:=by
    refine⟨⟨fun x y a0 V=>?_,T,ν,ν,h.os,h.tape⟩,⟨fun j Q x y a0 V=>?_⟩,ς,ς,S,fun x h1 h2=>?_,fun b hb _=>?_,fun b hb=>?_,rfl,rfl,rfl,rfl,rfl,rfl,rfl⟩
    ·simp only[Array.getElem?_push] at V ⊢;by_cases a4:x=w.heap.size
     ·grind
     ·rw[if_neg a4] at V;have a5:x<w:=(yk.1 V).1;rw[S x a5,if_neg (by have:=h.k a5;omega),h.c _ _ a0 V,a7 _ (z.b _ d _ _ a0 V)]
    ·have M:cG F w.heap.size j:=Q.b ς;simp only[Array.getElem?_push] at V;by_cases a4:x=w.heap.size
     ·grind
     ·rw[if_neg a4] at V;exact z.b j M _ _ a0 V
    ·grind
    ·grind
    ·grind
   refine ec.b (πB:=A) (s₁:=k w.heap.size) #[] (fun p=>p) (fun p=>rfl) (fun C=>?_) N ς (D _ N.d N.m fun j Q=>?_)
   ·have e1:=(I _ d).2 (l.i t.heap.size);have e2:(l.MS.Mg A).i (l.i t.heap.size)=w.heap.size:=by
     show A.i (l.f (l.i t.heap.size))=w.heap.size;rw[l.c,<-b0,A.a]
    rw[e2] at e1;simp only[Sem.bN,Sem.runT,Hr];rw[<-e1,Db hH,a6]
   ·have M:cG F w.heap.size j:=Q.b ς;have e1:=(I j M).2 w.heap.size;have e2:j.i w.heap.size=w.heap.size:=by
     have:=Q.1 w.heap.size a9 ς;have h3:=j.a w.heap.size;rw[this] at h3;exact h3
    rwa [e2] at e1
end
