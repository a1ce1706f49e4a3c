import Derived.Test.YtoklolfaemhfnaaGreatDoorZac
import Derived.Test.YtoklolfaemhfnaaGreatDoorZai
set_option maxRecDepth 100000
set_option maxHeartbeats 0
set_option linter.defProp false
namespace Go.Pm
section
open Go Go.Conc
variable {Q:Frame->Ξ}
structure iz(P:ϛ)(F:Fam)(fr:Frame)(cs:List Frame)(w:Δ):Prop where
 f:F.gs+5<=w.heap.size
 d:Shut F w
 a:fF P F fr
 g:fC F w.heap.size fr
 e:∀c∈cs,fF P F c/\fC F w.heap.size c/\c.mode=.run/\∃ops i rest k,c.todo=.inRegion ops (i::rest)::k
section
variable {P:ϛ}{F:Fam}{π:Perm}{fr:Frame}{cs:List Frame}{w wa:Δ}
def iz.b(h:iz P F fr cs w):bY P F Perm.id fr cs w w:=
 ⟨⟨λr o _ a=>by rwa [kX _ ⟨λ_=>rfl,λ_=>rfl,λ_=>rfl,rfl⟩],λ_ _=>rfl,h.f,h.f,rfl,λ_ _=>rfl⟩,h.d,λ_=>rfl,rfl,h.a,h.g,h.e⟩
def bY.l(h:bY P F π fr cs w wa):iz P F fr cs w:=⟨h.d.d,h.e,h.a,h.h,h.j⟩
def iz.h(h:iz P F fr cs w)(a:Nat->Question->Nat):iz P F fr cs (w.tp a):={h with d:=⟨h.d.b⟩}
def AZ(P:ϛ)(F:Fam)(L:da P F)(fr:Frame)(cs:List Frame)(w:Δ):Prop:=
 L.T w/\(iz P F fr cs w\/∃c cs0 ops i r k kd x fra,cs=c::cs0/\iz P F c cs0 w/\c.todo=.inRegion ops (i::r)::k/\fW P L.T F.gs fr fra (.int kd x))
def lM(P:ϛ)(Q:Frame->Ξ)(fr:Frame)(cs:List Frame)(w:Δ):Prop:=
 ∃n fr' w',runN P n (lone fr (cs++[ai]) w)=.next (lone fr' [ai] w')/\fr'.mode=.returning/\Q fr' w'
def AZ.a{L:da P F}(h:AZ P F L fr cs w)(d:Nat->Question->Nat):AZ P F L fr cs (w.tp d):=by let⟨f,h⟩:=h;refine⟨L.a w _ (λ_ _=>rfl) f,?_⟩;rcases h with h|⟨c,b,e,i,r,k,j,x,a,n,m,g,l⟩;exact .inl (h.h d);exact .inr ⟨c,b,e,i,r,k,j,x,a,n,m.h d,g,l⟩
def nA{n:Nat}{a:List Frame}{c b:Frame}{w d:Δ}(f:a≠[]\/c.mode≠.returning)(g:b.mode=.returning)(h:runN P n (lone c (a++[ai]) w)=.next (lone b [ai] d)):∃m,n=m+1:=by
 cases n with
 |zero=>
  injection h with h;obtain⟨rfl,e,_⟩:=cR h;simp_all
 |succ m=>simp
def oR(hP:bL P F)(L:da P F)(h:AZ P F L fr cs w)(D:¬(fr.mode=.returning/\cs=[]))(S:lM P Q fr cs w):∃s q X v,stepG P true (G fr (cs++[ai])) w=.go (G s (q++[ai])) X v/\AZ P F L s q X/\lM P Q s q X/\Tp P fr (cs++[ai]) w (G s (q++[ai])) X v:=by
 let⟨t,h⟩:=h;let⟨n,u,W,d,y,hQ⟩:=S;rcases h with h|⟨c,g,N,i,r,k,M,x,a7,rfl,hc,ht,B⟩
 .have a3:cs≠[]\/fr.mode≠.returning:=by grind
  obtain⟨m,rfl⟩:=nA a3 y d;have p:=h.b;rw[bP]at d;rcases pg hP p D with ⟨g1,Y,v,e⟩|⟨o,Y,v,e⟩
  .have O:=FB hP p D e;rcases ph (rest:=[]) hP p D e with V|⟨j,C,a0,a2,a1,rfl,_,I,A,_⟩|⟨f,z,a0,a2,a1,a4,hF,rfl,_,I,_,⟨N,i,r,k,ht⟩,A,_⟩;obtain⟨j,C,l,rfl,K,d2,Z⟩:=V;rw[step_lone_go (by have:stepG P true {frame:=fr,callers:=cs++[ai],status:=.running,dying:=none} w=_:=e;rw[this];rfl)]at d;exact absurd y (iS m K d2 Z d)
   .rw[step_lone_go (by have:stepG P true {frame:=fr,callers:=cs++[ai],status:=.running,dying:=none} w=_:=e;rw[this];rfl)]at d;refine⟨j,C,Y,v,e,⟨A.a L t,.inl I.l⟩,⟨m,u,W,d,y,hQ⟩,O.resolve_left ?_⟩;rintro⟨E,T,l,e2,K,d2,Z⟩;have U:j=E/\C++[ai]=T++[ai]:=by injection e2 with a b;exact⟨a,b⟩
    grind[iS]
   rw[step_lone_go (by have:stepG P true {frame:=fr,callers:=cs++[ai],status:=.running,dying:=none} w=_:=e;rw[this];rfl)]at d;rcases L.c f z a4 hF with ⟨M,x,B⟩|p;refine⟨_,_,Y,v,e,⟨A.a L t,.inr ⟨fr,cs,N,i,r,k,M,x,_,rfl,I.l,ht,B Perm.id⟩⟩,⟨m,u,W,d,y,hQ⟩,O.resolve_left ?_⟩;rintro⟨E,T,l,e2,K,d2,Z⟩;rw[<-(by injection e2:Frame.enter P f z .normal=E)]at K;cases K;exact absurd d (nB p m (A.a L t) ς)
  rw[step_lone_ended (P:=P) (o:=o) (w':=Y) (by have:stepG P true {frame:=fr,callers:=cs++[ai],status:=.running,dying:=none} w=_:=e;rw[this];rfl)]at d;cases d
 obtain⟨m,rfl⟩:=nA (.inl ς) y d;rw[bP]at d;cases B with
 |@ret _ _ _ fn _ R V hk hf A=>
  have e:=aW P true fr c (g++[ai]) w w R V hk fn _ #[] hf (A w t);rw[step_lone_go (P:=P) (fr:=fr) (cs:=(c::g)++[ai]) (w:=w) (fr':=c.finish (.int M x)) (cs':=g++[ai]) (w':=w) (by have:stepG P true {frame:=fr,callers:=c::(g++[ai]),status:=.running,dying:=none} w=_:=e;simp;rw[this];rfl)]at d;exact⟨c.finish (.int M x),g,w,_,e,⟨t,.inl (hc.b.m ht (v:=.int M x) λσ _=>ς).l⟩,⟨m,u,W,d,y,hQ⟩,Ϫ,rfl,λH _=>
   aW P true fr c (g++[ai]) (w.tp H) (w.tp H) R V hk fn _ #[] hf (A _ (L.a w (w.tp H) (λ_ _=>rfl) t))⟩
 |@step _ _ j a5 _ v _ _ I _ he a6=>
  have e:=I w true ((c::g)++[ai]) t;rw[step_lone_go (P:=P) (fr:=fr) (cs:=(c::g)++[ai]) (w:=w) (fr':=j) (cs':=(c::g)++[ai]) (w':=w) (by have:stepG P true {frame:=fr,callers:=(c::g)++[ai],status:=.running,dying:=none} w=_:=e;rw[this];rfl)]at d;exact⟨j,c::g,w,v,e,⟨t,ν⟩,⟨m,u,W,d,y,hQ⟩,Ϫ,rfl,λH _=>I (w.tp H) true _ (L.a w (w.tp H) (λ_ _=>rfl) t)⟩
def sS(e:bL P F)(h:iz P F fr [] w)(i:fr.mode=.returning)(b:lM P Q fr [] w):Q fr w:=by
 let⟨n,g,k,a,_,f⟩:=b;obtain⟨j,d,c,_⟩:=e.a _ h.a.fn;cases n with
 |zero=>
  injection a with a;grind[cR]
 |succ n=>exact absurd a (ry i h.a.defers h.a.kind c n)
def Ext(w:Δ)(τ:Nat->Question->Nat):Prop:=∀i,i<w.drawn->τ i=w.tape i
inductive su(P:ϛ)(C:Frame->List Frame->Ξ)(Q:Frame->Ξ):Frame->List Frame->Ξ
 |stop {fr:Frame}{w:Δ} (hc:C fr [] w) (hm:fr.mode=.returning) (hQ:Q fr w):su P C Q fr [] w
 |step {fr:Frame}{cs:List Frame}{w:Δ} (hc:C fr cs w) (hns:¬(fr.mode=.returning/\cs=[]))
  (hgo:∀τ,Ext w τ->∃fr' cs' w' es,stepG P true (G fr (cs++[ai])) (w.tp τ)=.go (G fr' (cs'++[ai])) w' es)
  (h:∀τ,Ext w τ->∀fr' cs' w' es,stepG P true (G fr (cs++[ai])) (w.tp τ)=.go (G fr' (cs'++[ai])) w' es->su P C Q fr' cs' w'):su P C Q fr cs w
def L0(hP:bL P F)(L:da P F)(h:AZ P F L fr cs w)(R:∀g,Ext w g->lM P Q fr cs (w.tp g)):su P (AZ P F L) Q fr cs w:=by
 apply Classical.byContradiction;intro a9
 let St:=Frame×List Frame×Δ
 let D:St->Prop:=λs=>AZ P F L s.1 s.2.1 s.2.2/\(∀g,Ext s.2.2 g->lM P Q s.1 s.2.1 (s.2.2.tp g))/\¬su P (AZ P F L) Q s.1 s.2.1 s.2.2
 have t:∀s:St,D s->¬(s.1.mode=.returning/\s.2.1=[]):=by
  rintro⟨fr,cs,w⟩⟨Z,R,hn⟩⟨hm,y⟩;subst y;have x:=Z.2;rcases x with x|⟨c,C,_,_,_,_,_,_,_,e,_⟩
  .exact hn (.stop Z hm (sS hP x hm (by have:=R _ λ_ _=>rfl;simp_all)))
  cases e
 have M:∀s:{s:St//D s},∃s':{s:St//D s},s.1.2.2.drawn<=s'.1.2.2.drawn/\(∀i,i<s.1.2.2.drawn->s'.1.2.2.tape i=s.1.2.2.tape i)/\
  ∃B,∀g:Nat->Question->Nat,(∀i,i<s'.1.2.2.drawn->g i=s'.1.2.2.tape i)->stepG P true (G s.1.1 (s.1.2.1++[ai])) (s.1.2.2.tp g)=.go (G s'.1.1 (s'.1.2.1++[ai])) (s'.1.2.2.tp g) B:=by
  rintro⟨⟨fr,cs,w⟩,hb⟩;have H:=t _ hb;obtain⟨x,R,hn⟩:=hb;have:∃g,Ext w g/\∃j o E B,stepG P true (G fr (cs++[ai])) (w.tp g)=.go (G j (o++[ai])) E B/\¬su P (AZ P F L) Q j o E:=by apply Classical.byContradiction;intro N;refine hn (.step x H (λg p=>?_) λg p j o E B O=>(by grind));obtain⟨j,o,E,B,O,_⟩:=oR hP L (x.a g) H (R g p);exact⟨j,o,E,B,O⟩
  obtain⟨g,p,X,C,w0,b6,a5,a6⟩:=this;obtain⟨j,o,E,B,O,a8,_,t1,t2,t3⟩:=oR hP L (x.a g) H (R g p);have l:X=j/\C=o/\w0=E:=by rw[a5]at O;injection O with a b _;injection a with a1 a2;exact⟨a1,Kl a2,b⟩
  obtain⟨rfl,rfl,rfl⟩:=l;refine⟨⟨⟨X,C,w0⟩,a8,λr u=>?_,a6⟩,t1,λi v=>?_,B,λr u=>?_⟩
  ·
   have b0:Ext w r:=λi v=>by rw[u i (yg v t1),t2];exact p i v
   obtain⟨b2,b1,w2,b4,a0,_,b3,_⟩:=oR hP L (x.a r) H (R r b0);have I:=t3 r (λi _ z=>by rw[u i z,t2]);rw[Hc]at I;rw[I]at a0;injection a0 with a b _;have:X=b2/\C++[ai]=b1++[ai]:=by injection a with a1 a2;exact⟨a1,a2⟩
   simp_all
  show w0.tape i=w.tape i;rw[t2];exact p i v;have:=t3 r (λi _ z=>by grind);rwa [Hc]at this
 let f:=λs=>Classical.choose (M s)
 have hf:=λs=>Classical.choose_spec (M s)
 let d:Nat->{s:St//D s}:=λn=>Nat.rec ⟨⟨fr,cs,w⟩,h,R,a9⟩ (λ_ s=>f s) n
 have b5:(d 0).1=⟨fr,cs,w⟩:=rfl;have A:∀n,(d (n+1))=f (d n):=λ_=>rfl;have U:∀n m,(d n).1.2.2.drawn<=(d (n+m)).1.2.2.drawn:=by
  intro n m;induction m with
  |zero=>exact Ϫ
  |succ m ih=>grind
 have l:∀n m i,i<(d n).1.2.2.drawn->(d (n+m)).1.2.2.tape i=(d n).1.2.2.tape i:=by
  intro n m i v;induction m with
  |zero=>rfl
  |succ m ih=>
   rwa [show n+(m+1)=n+m+1 from rfl,A,(hf _).2.1 i (yg v (U n m))]
 let T:Nat->Question->Nat:=λi=>@dite _ (∃n,i<(d n).1.2.2.drawn) (Classical.propDecidable _) (λN=>(d (Classical.choose N)).1.2.2.tape i) λ_=>w.tape i
 have a4:∀n i,i<(d n).1.2.2.drawn->T i=(d n).1.2.2.tape i:=by intro n i v;have N:∃n,i<(d n).1.2.2.drawn:=⟨n,v⟩;rw[(by simp only[T,dif_pos N]:T i=(d (Classical.choose N)).1.2.2.tape i)];have x:=Classical.choose_spec N;generalize Classical.choose N=m at x;rcases Nat.le_total n m with S|S;obtain⟨q,rfl⟩:=Nat.exists_eq_add_of_le S;exact l n q i v;obtain⟨q,rfl⟩:=Nat.exists_eq_add_of_le S;exact(l m q i x).symm
 have Y:∀n k,runN P n (lone (d k).1.1 ((d k).1.2.1++[ai]) ((d k).1.2.2.tp T))=.next (lone (d (k+n)).1.1 ((d (k+n)).1.2.1++[ai]) ((d (k+n)).1.2.2.tp T)):=by
  intro n;induction n with
  |zero=>intro k;rfl
  |succ n ih=>
   intro k;obtain⟨B,O⟩:=(hf (d k)).2.2;rw[bP,step_lone_go (P:=P) (fr':=(d (k+1)).1.1) (cs':=(d (k+1)).1.2.1++[ai]) (w':=(d (k+1)).1.2.2.tp T) (by have:stepG P true {frame:=(d k).1.1,callers:=(d k).1.2.1++[ai],status:=.running,dying:=none} ((d k).1.2.2.tp T)=_:=(O T λi v=>a4 (k+1) i v);rw[this];rfl)]
   have:=ih (k+1);rwa [show k+1+n=k+(n+1) from ω]at this
 obtain⟨n,j,E,hr,hm,_⟩:=R T λi v=>a4 0 i v;have h2:=Y n 0;rw[show (0:Nat)+n=n from yS n]at h2;have h3:=hr.symm.trans h2;injection h3 with h3;obtain⟨e1,e2,_⟩:=cR h3;refine t _ (d n).2 ⟨by rwa [<-e1],?_⟩;cases y:(d n).1.2.1 with
 |nil=>rfl
 |cons c cs=>rw[y]at e2;simp at e2
end
variable {w' wa':Δ}{π':Perm}{es:Array Event}
abbrev _root_.Go.World.eo(w:Δ):Os×Array (Nat×ϝ):=(w.os,w.output)
def oV{w:Δ}(h:w'.os=w.os)(k:w'.output=w.output):w'.eo=w.eo:=by grind
structure Rely(O K:ϑ)(A:Ξ)(w wL:Δ):Prop where
 a:∀b,O b\/K b->wL.heap[b]?=w.heap[b]?
 size:w.heap.size<=wL
 f:wL.eo=w.eo
 d:A w->A wL
theorem Rely.c(O K:ϑ)(A:Ξ)(w:Δ):Rely O K A w w:=⟨λ_ _=>rfl,Ϫ,rfl,id⟩
def Rely.e{O K:ϑ}{A:Ξ}{a b c:Δ}(h:Rely O K A a b)(k:Rely O K A b c):Rely O K A a c:=⟨λx d=>(k.a x d).trans (h.a x d),yr h.size k.size,k.f.trans h.f,k.d∘h.d⟩
def Ev(O K:ϑ)(e:Event):Prop:=
 match e.loc with
 |.cell a=>O a.block\/(K a.block/\e.write=false/\e.sync=false)
 |.obj b=>O b/\e.sync=false
 |.mark m=>m=.noRoom
 |.output=>True
 |.goroutines=>False
def grow(O:ϑ)(w w':Δ)(b:Nat):Prop:=O b\/(w.heap.size<=b/\b<w')
theorem bH(O:ϑ){w:Δ}(h:w'.heap.size=w):grow O w w'=O:=by
 funext b;apply propext;constructor
 .rintro(a|⟨a,c⟩);exact a;lia
 exact .inl
structure Guar(O K:ϑ)(X:Ϥ)(w w':Δ)(es:Array Event):Prop where
 a:∀b,b<w.heap.size->¬O b->w'.heap[b]?=w.heap[b]?
 size:w.heap.size<=w'
 tape:w'.tape=w.tape
 d:w'.eo=w.eo
 c:∀e∈es,Ev (grow O w w') K e\/X e
inductive Way(P:ϛ)(main:Bool)(K:ϑ)(A:Ξ)(X:Ϥ)(Stop:(ϑ)->Ϛ->Ξ):(ϑ)->Ϛ->Ξ
 |stop {O:ϑ}{g:Ϛ}{w:Δ} (h:∀wL,Rely O K A w wL->Stop O g wL):Way P main K A X Stop O g w
 |step {O:ϑ}{g:Ϛ}{w:Δ} (hrun:g.status=.running) (hgo:∀wL,Rely O K A w wL->∃g' w' es,stepG P main g wL=.go g' w' es/\Guar O K X wL w' es)
  (h:∀wL g' w' es,Rely O K A w wL->stepG P main g wL=.go g' w' es->Way P main K A X Stop (grow O wL w') g' w'):Way P main K A X Stop O g w
section
variable {P:ϛ}{main:Bool}{K:ϑ}{A:Ξ}{X:Ϥ}{Stop Stop':(ϑ)->Ϛ->Ξ}{O:ϑ}{g:Ϛ}{w wL:Δ}
def Way.rely(h:Way P main K A X Stop O g w)(e:Rely O K A w wL):Way P main K A X Stop O g wL:=by
 cases h with
 |stop h=>exact .stop λa b=>h a (e.e b)
 |step c d h=>exact .step c (λa b=>d a (e.e b)) λa j i f b=>h a j i f (e.e b)
end
structure Loose(F:Fam)(π:Perm)(w wa:Δ):Prop where
 e:∀(r:Nat)(o:Obj),F.b r->w.heap[r]?=some o->wa.heap[π.f r]?=some (o.pm π)
 d:∀r,r<F.gs+5->π.f r=r
 c:F.gs+5<=w.heap.size
 a:F.gs+5<=wa.heap.size
 os:wa.os=w.os
 g:∀f,π.g f=f
 b:π.b=false
def eT(w wa:Δ):Nat->Question->Nat:=λi=>if i<w.drawn then w.tape i else wa.tape (wa.drawn+(i-w.drawn))
section
variable {P:ϛ}{F:Fam}{π:Perm}{fr:Frame}{cs rest:List Frame}{w wa:Δ}
def A2(w b:Δ):Ext w (eT w b):=λi a=>by grind[eT]
def Loose.i(h:Loose F π w wa):Sim F π (w.tp (eT w wa)) wa:=
 ⟨h.e,h.d,h.c,h.a,h.os,λi q=>by show eT w wa (w.drawn+i) q=_;unfold eT;grind⟩
def Loose.h(h:Loose F π w wa)(k:iz P F fr cs w):bY P F π fr cs (w.tp (eT w wa)) wa:=⟨h.i,⟨k.d.b⟩,h.g,h.b,k.a,k.g,k.e⟩
def bY.n(h:bY P F π fr cs w wa):Loose F π w wa:=⟨h.d.c,h.d.g,h.d.d,h.d.e,h.d.os,h.g,h.b⟩
def Among(F:Fam)(π:Perm)(n:Nat)(O:ϑ):Prop:=∀r,F.gs+5<=r->r<n->O (π.f r)
def Loose.rely{O K:ϑ}{A:Ξ}(h:Loose F π w wa)(f:Among F π w O){a:Δ}(c:Rely O K A wa a):Loose F π w a:=
 {h with e:=λr o e d=>c.a _ (.inl (f r e (yk.1 d).1))▸h.e r o e d,a:=yr h.a c.size,os:=(congrArg Prod.fst c.f).trans h.os}
def mL{O:ϑ}(e:Among F π w O)(b:Ran F π π' w wa w' wa'):Among F π' w' (grow O wa wa'):=by intro r d a;by_cases c:r<w;rw[b.c r c];exact .inl (e r d c);exact .inr ⟨b.k r ω a,b.d.k a⟩
def uB{O K:ϑ}{X:Ϥ}(n:Sim F π w wa)(k:Among F π w O)(d:Ran F π π' w wa w' wa')(l:∀e∈es,fX F π' w' e):Guar O K X wa wa' es:=by
 refine⟨λb p o=>d.j b p λr f c e=>o (e▸k r f c),d.l,d.o,?_,λe q=>.inl ?_⟩;exact oV (by rw[d.d.os,d.os,n.os]) d.q;have g:=l e q;have j:=mL k d;let⟨i,t,s⟩:=e;cases i with
 |cell a=>let⟨r,f,c,e⟩:=g;exact .inl (e▸j r f c)
 |obj b=>let⟨⟨r,f,c,e⟩,h⟩:=g;exact⟨e▸j r f c,h⟩
 |mark m=>exact g
 |output=>trivial
 |goroutines=>exact g
theorem cN{O K:ϑ}{X:Ϥ}(h:∀e∈es,Ev O K e\/X e):Guar O K X wa wa es:=
 ⟨λ_ _ _=>rfl,Ϫ,rfl,rfl,λe a=>by grind[bH]⟩
def LU(P:ϛ)(F:Fam)(L:da P F)(π:Perm)(rest:List Frame)(fr:Frame)(cs:List Frame)(w:Δ)(g:Ϛ):Prop:=
 (iz P F fr cs w/\g=G (fr.pm π) (cs.map (Frame.pm π)++rest))\/
 ∃c cs0 ops i r k kd x fra,cs=c::cs0/\iz P F c cs0 w/\c.todo=.inRegion ops (i::r)::k/\fW P L.T F.gs fr fra (.int kd x)/\g=G fra (c.pm π::(cs0.map (Frame.pm π)++rest))
theorem uP{T:Ξ}{B:Nat}{a:Frame}{v:Θ}(h:fW P T B fr a v):fr.mode=.run\/fr.mode=.returning:=by
 cases h with
 |ret b=>grind
 |step b=>grind
def De{L:da P F}(h:AZ P F L fr cs w):fr.mode=.run\/fr.mode=.returning:=by rcases h.2 with h|⟨_,_,_,_,_,_,_,_,_,_,_,_,h⟩;exact h.a.mode;grind[uP]
def su.a{C:Frame->List Frame->Ξ}(h:su P C Q fr cs w):C fr cs w:=by cases h<;>assumption
def uQ(hP:bL P F)(L:da P F){m:Bool}{K:ϑ}{A:Ξ}{X:Ϥ}(hK:∀b,b<F.gs->K b){W:(ϑ)->Ϛ->Ξ}{dI:Nat}{πA:Perm}{Z:(ϑ)->Perm->Nat->Ξ}(d2:∀O o n wa d,Z O o n wa->Rely O K A wa d->Z O o n d)(c5:∀O o c7 w wa R wa',Z O o w.heap.size wa->Among F o w.heap.size O->Sim F o w wa->Ran F o c7 w wa R wa'->Z (grow O wa wa') c7 R wa')(b2:∀o fr w wa O,Loose F o w wa->iz P F fr [] w->L.T w->L.T wa->Among F o w O->dI<=w->(∀r,r<dI->o.f r=πA.f r)->Z O o w wa->fr.mode=.returning->Q fr w->Way P m K A X W O (G (fr.pm o) rest) wa)(h:su P (AZ P F L) Q fr cs w):∀{o:Perm}{wa:Δ}{O:ϑ}{g:Ϛ},Loose F o w wa->L.T wa->Among F o w O->dI<=w->(∀r,r<dI->o.f r=πA.f r)->Z O o w wa->LU P F L o rest fr cs w g->Way P m K A X W O g wa:=by
 induction h with
 |@stop fr w hc hm hQ=>
  intro o wa O g hl b4 U hn hk hz M;rcases M with ⟨hg,rfl⟩|⟨c,y,_,_,_,_,_,_,_,e,_⟩;exact b2 o fr w wa O hl hg hc.1 b4 U hn hk hz hm hQ;cases e
 |@step fr cs w hc d7 d8 b5 ih=>
  intro o wa O g hl b4 U hn hk hz M;have c0:∀d,Rely O K A wa d->∃g' wa' Y,stepG P m g d=.go g' wa' Y/\Guar O K X d wa' Y/\Way P m K A X W (grow O d wa') g' wa':=by
   intro d N;have t:=hl.rely U N;have u:=d2 _ _ _ _ _ hz N;have l:=L.a wa _ (λb hb=>N.a b (.inr (hK b hb))) b4;have a3:=A2 w d;obtain⟨H,a0,R,es,C⟩:=d8 _ a3;have IH:=@ih _ a3 _ _ _ _ C;rcases M with ⟨hg,rfl⟩|⟨c,y,a8,i,r,k,kd,x,B,rfl,hg,ht,a4,rfl⟩
   .have D:=t.h hg;rcases ph hP D d7 C with hd|⟨V,c6,b6,b0,a9,e1,ha,z,j,b1⟩|⟨f,E,b6,b0,a9,c8,hF,e1,ha,z,_,⟨a8,i,r,k,ht⟩,j,b1⟩
    .exfalso
     obtain⟨V,c6,e7,e,d1,_⟩:=hd;have e3:H=V:=by injection e
     have e6:=De (b5 _ a3 _ _ _ _ C).a;grind
    .obtain⟨rfl,rfl⟩:=(by injection e1 with a b;simp_all:H=V/\a0=c6);refine⟨_,b0,a9,ha m,uB D.d U j b1,IH z.n (j.n L D.d l) (mL (w:=w.tp (eT w d)) U j) (yr hn j.grow) (λr M=>(j.c r (yg M hn)).trans (hk r M)) (c5 _ _ _ (w.tp (eT w d)) _ _ _ u U D.d j) (.inl ⟨z.l,rfl⟩)⟩
    have e2:H=Frame.enter P f E .normal/\a0=fr::cs:=by injection e1 with a b;exact⟨a,Kl (bs:=[ai]) b⟩
    obtain⟨rfl,rfl⟩:=e2;rcases L.c f E c8 hF with ⟨kd,x,a4⟩|e9;refine⟨_,b0,a9,ha m,uB D.d U j b1,IH z.n (j.n L D.d l) (mL (w:=w.tp (eT w d)) U j) (yr hn j.grow) (λr M=>(j.c r (yg M hn)).trans (hk r M)) (c5 _ _ _ (w.tp (eT w d)) _ _ _ u U D.d j) (.inr ⟨fr,cs,a8,i,r,k,kd,x,_,rfl,z.l,ht,a4 b6,rfl⟩)⟩;exfalso;have I:AZ P F L (Frame.enter P f E .normal) (fr::cs) R:=(b5 _ a3 _ _ _ _ C).a;rcases I.2 with d3|⟨_,_,_,_,_,_,kd,x,_,_,_,_,a4⟩;have:=d3.a.leaf;rw[show (Frame.enter P f E .normal).fn=f from rfl,c8]at this;grind;have c9:∀{fr B:Frame}{v:Θ},fW P L.T F.gs fr B v->kW P L.T fr->False:=by
     intro fr B v h;induction h with
     |@ret fr B v fn c4 hm hd b3 hf M=>
      intro z;have e:=aW P true fr ai [ai] R R hm hd b3 fn v #[] hf (M R I.1);cases z with
      |now z=>obtain⟨_,_,_,e'⟩:=z R true [ai,ai] I.1;grind
      |step z _=>
       rw[(z R true [ai,ai] I.1)]at e;injection e with e1;injection e1 with _ e2;cases e2
     |@step fr B H f0 v es f4 hm z _ C _ ih=>
      intro a5;have e:=z R true [] I.1;cases a5 with
      |now a5=>simp_all
      |step a5 h'=>
       rw[(a5 R true [] I.1)]at e;injection e with e1;injection e1 with e2;grind
    grind
   ·
    have a6:L.T (w.tp (eT w d)):=L.a w _ (λ_ _=>rfl) hc.1;cases a4 with
    |@ret _ _ _ fn c4 d5 hd b3 hf d0 c1 e5 b9 e8 b7=>
     have e:=aW P true fr c (y++[ai]) (w.tp (eT w d)) _ d5 hd b3 fn _ #[] hf (d0 _ a6);rw[Ft,e]at C;injection C with a b _;obtain⟨rfl,rfl⟩:=(by injection a with a1 a2;simp_all:c.finish (.int kd x)=H/\y=a0);subst b;have a7:=eE o ht (.int kd x);simp at a7;refine⟨_,d,_,aW P m B (c.pm o) (y.map (Frame.pm o)++rest) d d c1 e5 b9 c4 _ #[] e8 (b7 _ l),cN (λe C=>by have:=jB P B.fn #[] e C;grind),?_⟩;rw[bH O rfl];exact IH (t.h hg).n l U hn hk u (.inl ⟨(((t.h hg).m ht (v:=.int kd x) λσ _=>ς).l),by rw[a7]⟩)
    |@step _ _ V c2 _ f2 d4 hm z e4 e0 c3=>
     have e:=z (w.tp (eT w d)) true ((c::y)++[ai]) a6;rw[e]at C;injection C with a b _;obtain⟨rfl,rfl⟩:=(by injection a with a1 a2;grind[Kl]:V=H/\c::y=a0);subst b;refine⟨_,d,d4,e4 d m _ l,cN λe C=>?_,?_⟩;obtain⟨a,rfl,hb⟩:=e0 e C;exact .inl (.inr ⟨hK _ hb,rfl,rfl⟩);rw[bH O rfl];exact IH (t.h hg).n l U hn hk u (.inr ⟨c,y,a8,i,r,k,kd,x,c2,rfl,hg.h _,ht,c3,rfl⟩)
  refine .step (by rcases M with ⟨_,rfl⟩|⟨_,_,_,_,_,_,_,_,_,_,_,_,_,rfl⟩<;>rfl:g.status=.running) (λd S=>?_) λd g' wa' Y S C=>?_;obtain⟨g',wa',Y,k1,k2,_⟩:=c0 d S;exact⟨g',wa',Y,k1,k2⟩;obtain⟨g2,f1,f3,k1,_,k3⟩:=c0 d S;rw[C]at k1;injection k1 with a b _;subst a b;exact k3
end
variable {O K:ϑ}{f:FuncId}{args:ϡ}{main:Bool}{A:Ξ}{X:Ϥ}{Stop:(ϑ)->Ϛ->Ξ}{c:Frame}
section
variable{P:ϛ}{F:Fam}{U:Perm}{fr:Frame}{cs rest:List Frame}{w wa:Δ}
def sL(hP:bL P F)(h:bY P F U fr [] w wa){fd:Func}{v:Θ}(hres:(results fd fr.tmps).run P w=.ok v w):∃es,(results fd (fr.pm U).tmps).runT P wa #[]=(.ok (v.pm U) wa,es)/\(∀e∈es,fX F U w.heap.size e)/\Sup F w.heap.size v:=by
 have hlone:ec P F Value.pm U w wa ((results fd fr.tmps).bz P):=oA pm_comp _ h.d h.e λC hσ=>by have:=ay.z (iA hP hσ) fd fr.tmps;rw[h.h C hσ]at this;exact this.symm
 have hact:∀es a wa' es',(((results fd fr.tmps).bz P).bN U U.v).runT P wa es=(.ok a wa',es')->(results fd (fr.pm U).tmps).runT P wa es=(.ok a wa',es'):=λes a wa' es' he=>
  j4 ((congrArg (λs=>Sem.runT P s wa es) (ay.z (h.o hP) fd fr.tmps)).trans he)
 let⟨π',wa',d,h1,h2,h3,h4⟩:=(hlone #[] #[]).1 v w ((results fd fr.tmps).runT P w #[]).2 (j5 (Prod.ext (by rwa [Sem.runT_fst]:((results fd fr.tmps).runT P w #[]).1=.ok v w) rfl));replace h1:=hact _ _ _ _ h1;have h6:=kE fd _ _ _ _ (by rw[<-Sem.runT_fst P _ _ #[],h1]:(results fd (fr.pm U).tmps).run P wa=.ok (v.pm π') wa');subst h6;have hv:Sup F w.heap.size v:=h4;rw[oZ h.d.b h2.d.b h2.c h2.e hv]at h1;refine⟨_,h1,λe he=>?_,hv⟩;have:=h3 e (ϰ he);let⟨loc,wr,sy⟩:=e;cases loc with
 |cell a=>let⟨r,h8,hlt,e⟩:=this;exact⟨r,h8,hlt,by rwa [<-h2.c r hlt]⟩
 |obj b=>let⟨⟨r,h8,hlt,e⟩,hsy⟩:=this;exact⟨⟨r,h8,hlt,by rwa [<-h2.c r hlt]⟩,hsy⟩
 |mark m=>exact this
 |output=>trivial
 |goroutines=>exact this
def A0{n:Nat}(ho:Among F U n O){e:Event}(h:fX F U n e):Ev O K e:=by
 let⟨loc,wr,sy⟩:=e;cases loc with
 |cell a=>let⟨r,h8,hlt,e⟩:=h;exact .inl (e▸ho r h8 hlt)
 |obj b=>let⟨⟨r,h8,hlt,e⟩,hsy⟩:=h;exact⟨e▸ho r h8 hlt,hsy⟩
 |mark m=>exact h
 |output=>trivial
 |goroutines=>exact h
def uy(hP:bL P F)(hlow:F.gs+5<=w.heap.size)(hs:Shut F w)(hF:F f=true)(hlf:F.leaf f=false)(ha:∀v∈args,Sup F w.heap.size v):iz P F (Frame.enter P f args .normal) [] w:=
 ⟨hlow,hs,(jx hP hF hlf ha).1,(jx hP hF hlf ha).2,λc hc=>by cases hc⟩
def rz(hP:bL P F)(L:da P F)(hK:∀b,b<F.gs->K b){Z:(ϑ)->Perm->Nat->Ξ}(hZr:∀O U n wa waB,Z O U n wa->Rely O K A wa waB->Z O U n waB)(hZs:∀O U π' w wa w' wa',Z O U w.heap.size wa->Among F U w.heap.size O->Sim F U w wa->Ran F U π' w wa w' wa'->Z (grow O wa wa') π' w'.heap.size wa')(hz:Z O U w.heap.size wa)(h:Loose F U w wa)(hs:Shut F w)(hT:L.T w)(hTa:L.T wa)(ho:Among F U w.heap.size O)(hF:F f=true)(hlf:F.leaf f=false)(ha:∀v∈args,Sup F w.heap.size v){R:Ending->Ξ}(hc:∀q,Ext w q->Calls P f args (w.tp q) R)(hR:∀e w',R e w'->∃v,e=.returned v)(hk:∀v w' π' wa' O',R (.returned v) w'->Loose F π' w' wa'->Shut F w'->L.T w'->L.T wa'->Among F π' w'.heap.size O'->w.heap.size<=w'->(∀r,r<w.heap.size->π'.f r=U.f r)->Sup F w'.heap.size v->Z O' π' w'.heap.size wa'->Way P main K A X Stop O' (G (c.finish (v.pm π')) rest) wa'):Way P main K A X Stop O (G (Frame.enter P f (args.map U.v) .normal) (c::rest)) wa:=by
 let Q:Frame->Ξ:=λfr w'=>fr.defers=[]/\fr.kind=.normal/\∃fd v,P.funcs[fr.fn]?=some fd/\(results fd fr.tmps).run P w'=.ok v w'/\R (.returned v) w'
 have hgh:=uy hP h.c hs hF hlf ha;have hends:su P (AZ P F L) Q (Frame.enter P f args .normal) [] w:=L0 hP L ⟨hT,.inl hgh⟩ λq hτ=>by let⟨e,w',fr',hRe,hcomes,hfn,hleave⟩:=hc q hτ [ai];obtain⟨v,rfl⟩:=hR e w' hRe;let⟨n,hrun⟩:=hcomes;let⟨hm,hd,hkk,fd,hfd,hres⟩:=hleave;exact⟨n,fr',w',hrun,hm,hd,hkk,fd,v,hfd,hres,hRe⟩
 refine uQ (rest:=c::rest) hP L hK (dI:=w.heap.size) (πA:=U) hZr hZs ?_ hends h hTa ho Ϫ (λ_ _=>rfl) hz (.inl ⟨hgh,by grind[oS]⟩);intro π' fr' w' wa' O' hl' hg' hT' hTa' ho' hn hsame hz' hm ⟨hd,hkk,fd,v,hfd,hres,hRv⟩;have hstep:∀waB,Rely O' K A wa' waB->∃es,stepG P main (G (fr'.pm π') (c::rest)) waB=.go (G (c.finish (v.pm π')) rest) waB es/\(∀e∈es,Ev O' K e)/\Sup F w'.heap.size v:=
  λwaB bm=>have hlB:=hl'.rely ho' bm
  have hst:=hlB.h hg';have hres':(results fd fr'.tmps).run P (w'.tp (eT w' waB))=.ok v (w'.tp (eT w' waB)):=by obtain⟨_,_,t3⟩:=pe hP hg'.b (Prod.ext (by rwa [Sem.runT_fst]) rfl);have:=t3 (eT w' waB) λi h1 h2=>absurd h2 (xl.2 h1);rw[<-Sem.runT_fst P _ _ #[],this]
  let ⟨es,e1,e2,e3⟩:=sL hP hst hres'
  ⟨_,aW P main (fr'.pm π') c rest waB waB hm hd hkk fd (v.pm π') es hfd e1,λe he=>A0 (F:=F) (U:=π') (n:=w'.heap.size) ho' (e2 e (jB P _ es e he)),e3⟩
 refine .step rfl (λwaB bm=>?_) λwaB g' wa2 es bm he=>?_;let⟨es,e1,e2,_⟩:=hstep waB bm;exact⟨_,waB,es,e1,(by grind[cN])⟩;let⟨es',e1,_,e3⟩:=hstep waB bm;rw[e1]at he;injection he with a b _;subst a b;rw[bH O' rfl];exact hk v w' π' waB O' hRv (hl'.rely ho' bm) hg'.d hT' (L.a wa' waB (λb hb=>bm.a b (.inr (hK b hb))) hTa') ho' hn hsame e3 ((by grind))
def Dr(hP:bL P F)(L:da P F)(hK:∀b,b<F.gs->K b)(h:Loose F U w wa)(hs:Shut F w)(hT:L.T w)(hTa:L.T wa)(ho:Among F U w.heap.size O)(hF:F f=true)(hlf:F.leaf f=false)(ha:∀v∈args,Sup F w.heap.size v){R:Ending->Ξ}(hc:∀q,Ext w q->Calls P f args (w.tp q) R)(hR:∀e w',R e w'->∃v,e=.returned v)(hk:∀v w' π' wa' O',R (.returned v) w'->Loose F π' w' wa'->Shut F w'->L.T w'->L.T wa'->Among F π' w'.heap.size O'->w.heap.size<=w'->(∀r,r<w.heap.size->π'.f r=U.f r)->Sup F w'.heap.size v->Way P main K A X Stop O' (G (c.finish (v.pm π')) rest) wa'):Way P main K A X Stop O (G (Frame.enter P f (args.map U.v) .normal) (c::rest)) wa:=
 rz hP L hK (Z:=λ_ _ _ _=>True) (λ_ _ _ _ _ _ _=>trivial) (λ_ _ _ _ _ _ _ _ _ _ _=>trivial) trivial h hs hT hTa ho hF hlf ha hc hR λv w' π' wa' O' h1 h2 h3 h4 h5 h6 h7 h8 h9 _=>hk v w' π' wa' O' h1 h2 h3 h4 h5 h6 h7 h8 h9
end
variable {F:Fam}{S S':ϑ}{C U:Perm}{o:Obj}
def FixS(F:Fam)(S:ϑ)(C:Perm):Prop:=(∀r,F.b r->S r->C.f r=r)/\(∀f,F f=true->C.g f=f)/\∀r,C.f r<F.gs↔r<F.gs
def SupO(F:Fam)(S:ϑ)(o:Obj):Prop:=∀C,FixS F S C->o.pm C=o
def FixS.a(h:FixS F S' C)(hs:∀r,F.b r->S r->S' r):FixS F S C:=⟨λr hl hr=>h.1 r hl (hs r hl hr),h.2⟩
def SupO.a(h:SupO F S o)(hs:∀r,F.b r->S r->S' r):SupO F S' o:=λC hσ=>h C (hσ.a hs)
def Bg(n:Nat):∀(l:Ϙ),l.Nodup->(∀b∈l,n<=b)->∃U:Perm,(∀r,r<n->U.f r=r)/\(∀i b,l[i]?=some b->U.f (n+i)=b)/\(∀f,U.g f=f)/\(∀x,U.h x=x)/\U.b=false:=by
 intro l;have key:∀(l r:Ϙ),(l++r).Nodup->(∀b∈l++r,n<=b)->∀U:Perm,(∀r,r<n->U.f r=r)->(∀i b,l[i]?=some b->U.f (n+i)=b)->(∀f,U.g f=f)->(∀x,U.h x=x)->U.b=false->
  ∃U:Perm,(∀r,r<n->U.f r=r)/\(∀i b,(l++r)[i]?=some b->U.f (n+i)=b)/\(∀f,U.g f=f)/\(∀x,U.h x=x)/\U.b=false:=by
  intro l r;induction r generalizing l with
  |nil=>grind
  |cons b r ih=>
   intro hnd hge U h1 h2 h3 h4 h5;have e:l++b::r=(l++[b])++r:=ς;rw[e]at hnd hge|-;have hb:b∉l:=by have:(l++[b]).Nodup:=(GZ.1 hnd).1;intro hx;exact(by grind)
   refine ih (l++[b]) hnd hge (U.Nn (U.f (n+l.length)) b) (λx hx=>?_) (λi c hi=>?_) h3 h4 h5
   .have hxx:=h1 x hx;show (if U.f x=U.f (n+l.length) then b else if U.f x=b then U.f (n+l.length) else U.f x)=x;rw[if_neg λe=>ϕ (U.Nd e),hxx,if_neg];have:=hge b ς;lia
   show (if U.f (n+i)=U.f (n+l.length) then b else if U.f (n+i)=b then U.f (n+l.length) else U.f (n+i))=c;rcases Ks i l.length with hlt|rfl|hgt;rw[y7 hlt]at hi;have hc:=h2 i c hi;rw[if_neg λe=>ϕ (U.Nd e),hc,if_neg];grind;grind;grind
 intro hnd hge;simpa using key [] l (ϰ hnd) (ϰ hge) Perm.id (λ_ _=>rfl) (λi b hi=>by simp at hi) (λ_=>rfl) (λ_=>rfl) rfl
def rl(hid:∀r,r<F.gs+5->U.f r=r)(hg:∀f,U.g f=f)(hS:∀r,F.b r->S r->∃k,F.b k/\S' k/\U.f k=r)(hσ:FixS F S' C):FixS F S (U.Mg (C.Mg U.MS)):=by
 have hi:∀r,r<F.gs+5->U.i r=r:=λr hr=>by grind[Perm.a]
 have hig:∀r,U.i r<F.gs↔r<F.gs:=λr=>by constructor;intro h;have:=hid (U.i r) ω;grind[Perm.c];grind
 have hfg:∀r,U.f r<F.gs↔r<F.gs:=λr=>by grind[Perm.a]
 have hj:∀f,U.j f=f:=λf=>by have:=U.d f;grind
 refine⟨λr hl hr=>?_,λf hf=>?_,λr=>?_⟩;obtain⟨k,h1,h2,rfl⟩:=hS r hl hr;show U.f (C.f (U.i (U.f k)))=U.f k;rw[U.a,hσ.1 k h1 h2];show U.g (C.g (U.j f))=f;rw[hj,hσ.2.1 f hf,hg];show U.f (C.f (U.i r))<F.gs↔r<F.gs;rw[hfg,hσ.2.2,hig]
def restrict(wa:Δ)(l:Ϙ)(hnd:l.Nodup)(hlive:∀b∈l,F.b b)(hlow:F.gs+5<=wa.heap.size)(hclosed:∀b∈l,∃o,wa.heap[b]?=some o/\SupO F (·∈l) o):∃(w:Δ)(U:Perm),Loose F U w wa/\Shut F w/\w.heap.size=F.gs+5+l.length/\(∀i b,l[i]?=some b->U.f (F.gs+5+i)=b)/\(∀b,b<F.gs+5->w.heap[b]?=wa.heap[b]?)/\(∀x,U.h x=x)/\w.tape=wa.tape/\w.drawn=wa.drawn:=by
 let⟨U,p1,p2,p3,p4,p5⟩:=Bg (F.gs+5) l hnd hlive
 let f:Nat->Obj:=λb=>((wa.heap[b]?).getD default).pm U.MS
 let w:Δ:={wa with heap:=wa.heap.extract 0 (F.gs+5)++(l.map f).toArray}
 have hsz:w.heap.size=F.gs+5+l.length:=by simp[w];lia
 have hlo:∀b,b<F.gs+5->w.heap[b]?=wa.heap[b]?:=λb hb=>by grind
 have hhi:∀i,w.heap[F.gs+5+i]?=(l[i]?).map f:=λi=>by simp only[w];simp_all[Array.getElem?_append_right]
 have obj:∀(r:Nat)(o:Obj),F.b r->w.heap[r]?=some o->∃b oa,U.f r=b/\b∈l/\wa.heap[b]?=some oa/\o=oa.pm U.MS/\SupO F (·∈l) oa:=by intro r o hl hr;obtain⟨i,rfl⟩:∃i,r=F.gs+5+i:=⟨r-(F.gs+5),by have:F.gs+5<=r:=hl;lia⟩;rw[hhi]at hr;obtain⟨b,hb,rfl⟩:=yE.1 hr;have hm:=yy hb;let⟨oa,ho,hs⟩:=hclosed b hm;exact⟨b,oa,p2 i b hb,hm,ho,by grind,hs⟩
 have back:∀oa:Obj,(oa.pm U.MS).pm U=oa:=λoa=>by simp
 refine⟨w,U,⟨λr o hl hr=>?_,p1,ω,hlow,rfl,p3,p5⟩,⟨λC hσ r o hl hr=>?_⟩,hsz,p2,hlo,p4,rfl,rfl⟩;grind;obtain⟨b,oa,e,hm,ho,rfl,hs⟩:=obj r o hl hr;have hfix:FixS F (·∈l) (U.Mg (C.Mg U.MS)):=rl (S':=λr=>r<w) p1 p3 (λr hl hr=>by let⟨i,hi⟩:=Kp.1 hr;refine⟨F.gs+5+i,by show F.gs+5<=_;lia,?_,p2 i r hi⟩;grind) ⟨λr hl hr=>hσ.1 r hl hr,hσ.2.1,hσ.2.2⟩
 have:=hs _ hfix;rw[<-obj_comp,<-obj_comp]at this;have h2:=congrArg (Obj.pm U.MS) this;have:=U.M8;grind[obj_comp,kX]
def Loose.j{w wa:Δ}(h:Loose F U w wa)(hs:Shut F w)(hS:∀r,F.b r->r<w.heap.size->S (U.f r)){r:Nat}(hl:F.b r)(hr:w.heap[r]?=some o):SupO F S (o.pm U):=by
 intro C hσ;have hid:=h.d;have hi:∀r,r<F.gs+5->U.i r=r:=λr hr=>by grind[Perm.a]
 have hlv:∀r,F.b r->F.b (U.f r):=λr hr=>by show F.gs+5<=U.f r;refine Nat.le_of_not_lt λhlt=>?_;have:=hi _ hlt;rw[U.a]at this;have hr':F.gs+5<=r:=hr;lia
 have hlv':∀r,F.b r->F.b (U.i r):=λr hr=>by show F.gs+5<=U.i r;refine Nat.le_of_not_lt λhlt=>?_;have:=hid _ hlt;rw[U.c]at this;have hr':F.gs+5<=r:=hr;lia
 have hfix:FixS F (λr=>r<w) (U.MS.Mg (C.Mg U.MS.MS)):=rl (U:=U.MS) (S':=S) hi (λf=>by show U.j f=f;have:=U.d f;grind[g]) (λr hl hr=>⟨U.f r,hlv r hl,hS r hl hr,U.a r⟩) hσ;have:=hs.b _ ⟨λr hl hr=>hfix.1 r hl hr,hfix.2.1,hfix.2.2⟩ r o hl hr;rw[<-obj_comp,<-obj_comp]at this;have h2:=congrArg (Obj.pm U) this;rwa [obj_comp U U.MS,kX _ (Perm.M7 U)]at h2
variable {w wa:Δ}
def obj_back{o o':Obj}(h:o.pm U=o'):o=o'.pm U.MS:=by have:=U.M8;grind[obj_comp,kX]
def uD(h:Loose F U w wa)(r:Nat):U.f r<F.gs↔r<F.gs:=by
 constructor
 .intro hr;have:=h.d (U.f r) ω;simp_all
 intro hr;rwa [h.d r ω]
def Bb(h:Loose F U w wa)(r:Nat):U.i r<F.gs↔r<F.gs:=by rw[<-uD h (U.i r),U.c]
def loose_live(h:Loose F U w wa){r:Nat}(hr:F.b r):F.b (U.f r):=by show F.gs+5<=U.f r;refine Nat.le_of_not_lt λhlt=>?_;have:=U.Nd (h.d (U.f r) hlt);have hr':F.gs+5<=r:=hr;lia
def merge{wa':Δ}(h:Loose F U w wa)(hs:Shut F w)(hlow:F.gs+5<=wa'.heap.size){n:Nat}{W:Nat->Δ}{Ps:Nat->Perm}(hp:∀i,i<n->Loose F (Ps i) (W i) wa'/\Shut F (W i)){Kept:ϑ}(hk:∀r o,F.b r->Kept r->w.heap[r]?=some o->wa'.heap[U.f r]?=some (o.pm U))(hnk:∀r,F.b r->r<w.heap.size->¬Kept r->∃i k,i<n/\F.b k/\k<(W i).heap.size/\(Ps i).f k=U.f r):∃(w'':Δ)(π'':Perm),Loose F π'' w'' wa'/\Shut F w''/\w.heap.size<=w''/\(∀r,r<w.heap.size->π''.f r=U.f r)/\(∀r,r<F.gs+5->w''.heap[r]? =wa'.heap[r]?)/\
   (∀r,F.b r->r<w.heap.size->Kept r->w''.heap[r]?=w.heap[r]?)/\
   (∀i,i<n->∀k o,F.b k->(W i).heap[k]?=some o->w''.heap[(π''.MS.Mg (Ps i)).f k]?=some (o.pm (π''.MS.Mg (Ps i))))/\
   (∀r,F.b r->r<w''.heap.size->(r<w.heap.size/\Kept r)\/∃i k,i<n/\F.b k/\k<(W i).heap.size/\(Ps i).f k=π''.f r)/\(∀x,π''.h x=x):=by
 have hfst:∀i b,((List.range' (F.gs+5) (w.heap.size-(F.gs+5))).map U.f)[i]?=some b->b=U.f (F.gs+5+i)/\F.gs+5+i<w.heap.size:=by intro i b hi;rw[yZ]at hi;obtain⟨x,hx,rfl⟩:=yE.1 hi;let⟨hlt,e⟩:=ym.1 hx;simp at hlt e;subst e;exact⟨rfl,ω⟩
 let fst:=(List.range' (F.gs+5) (w.heap.size-(F.gs+5))).map U.f
 have hlen:fst.length=w.heap.size-(F.gs+5):=by simp[fst]
 have hmem:∀r,F.b r->r<w.heap.size->U.f r∈fst:=λr hl hr=>yW.2 ⟨r,by rw[List.mem_range'_1];have:F.gs+5<=r:=hl;lia,rfl⟩;have hmem':∀b,b∈fst->∃r,F.b r/\r<w.heap.size/\b=U.f r:=λb hb=>by obtain⟨r,hr,rfl⟩:=yW.1 hb;rw[List.mem_range'_1]at hr;exact⟨r,by show F.gs+5<=r;lia,by lia,rfl⟩
 let InP:ϑ:=λb=>∃i k,i<n/\F.b k/\k<(W i).heap.size/\(Ps i).f k=b
 let new:=(List.range wa'.heap.size).filter λb=>@decide (InP b/\b∉fst) (Classical.propDecidable _)
 have hnew:∀b,b∈new↔b<wa'.heap.size/\InP b/\b∉fst:=λb=>by simp[new]
 have hnd:(fst++new).Nodup:=by rw[GZ];refine⟨?_,List.Pairwise.filter _ List.nodup_range,λa ha b hb e=>?_⟩;exact List.Pairwise.map _ (λa b hab e=>hab (U.Nd e)) (List.nodup_range' (s:=F.gs+5) (n:=w.heap.size-(F.gs+5)) (step:=1) ω);subst e;exact((hnew a).1 hb).2.2 ha
 have hpobj:∀b,InP b->∃i k o,i<n/\F.b k/\(W i).heap[k]?=some o/\(Ps i).f k=b/\wa'.heap[b]?=some (o.pm (Ps i)):=by rintro b⟨i,k,hi,hl,hk',e⟩;have ho:=yl hk';exact⟨i,k,_,hi,hl,ho,e,e▸(hp i hi).1.e k _ hl ho⟩
 have hin:∀b,InP b->b∈fst++new:=λb hb=>by let⟨_,_,o,_,_,_,_,ho⟩:=hpobj b hb;by_cases hf:b∈fst;exact List.mem_append_left _ hf;exact List.mem_append_right _ ((hnew b).2 ⟨(yk.1 ho).1,hb,hf⟩)
 have hcl:∀b∈fst++new,∃o,wa'.heap[b]?=some o/\SupO F (·∈fst++new) o:=by
  have part:∀b,InP b->∃o,wa'.heap[b]?=some o/\SupO F (·∈fst++new) o:=λb hb=>
   let ⟨i,k,o,hi,hl,hko,e,ho⟩:=hpobj b hb
   ⟨_,ho,(hp i hi).1.j (hp i hi).2 (λr hr hlt=>hin _ ⟨i,r,hi,hr,hlt,rfl⟩) hl hko⟩
  intro b hb;rcases yz.1 hb with hb|hb;obtain⟨r,hl,hr,rfl⟩:=hmem' b hb;by_cases hkr:Kept r;have ho:=yl hr;exact⟨_,hk r _ hl hkr ho,h.j hs (λr hr hlt=>List.mem_append_left _ (hmem r hr hlt)) hl ho⟩;let⟨i,k,h1,h2,h3,h4⟩:=hnk r hl hr hkr;exact part _ ⟨i,k,h1,h2,h3,h4⟩;exact part b ((hnew b).1 hb).2.1
 have hlv:∀b∈fst++new,F.b b:=λb hb=>by rcases yz.1 hb with hb|hb;obtain⟨r,hl,_,rfl⟩:=hmem' b hb;exact loose_live h hl;obtain⟨i,k,hi,hl,_,rfl⟩:=((hnew b).1 hb).2.1;exact loose_live (hp i hi).1 hl
 let⟨w'',π'',hL,hS,hsz,hπ,hlo,hh,_,_⟩:=restrict wa' (fst++new) hnd hlv hlow hcl;have hlw:=h.c;have hπ':∀r,r<w.heap.size->π''.f r=U.f r:=λr hr=>by
  by_cases hlt:r<F.gs+5
  rw[hL.d r hlt,h.d r hlt];have e:(fst++new)[r-(F.gs+5)]?=some (U.f r):=by rw[y7 (by rw[hlen];lia)];simp only[fst,yZ];rw[List.getElem?_range' ω];simp;congr 1;lia
  have:=hπ _ _ e;rwa [show F.gs+5+(r-(F.gs+5))=r by lia]at this
 refine⟨w'',π'',hL,hS,by rw[hsz,yC,hlen];lia,hπ',hlo,λr hl hr hkr=>?_,λi hi k o hl hko=>?_,λr hl hr=>?_,hh⟩
 .have ho:=yl hr;have hr'':r<w'':=by rw[hsz,yC,hlen];lia
  have ho'':=yl hr'';have e1:=hL.e r _ hl ho'';rw[hπ' r hr,hk r _ hl hkr ho]at e1;injection e1 with e1;have e2:=obj_back e1.symm;rw[obj_comp]at e2;rw[ho'',ho,e2];congr 1;refine hs.b _ ⟨λx hx hxn=>?_,λf _=>?_,λx=>?_⟩ r _ hl ho;show π''.i (U.f x)=x;rw[<-hπ' x hxn,π''.a];show π''.j (U.g f)=f;rw[h.g];have:=π''.d f;rwa [hL.g]at this;show π''.i (U.f x)<F.gs↔x<F.gs;rw[Bb hL,uD h]
 .have hkl:k<(W i).heap.size:=(yk.1 hko).1;obtain⟨idx,hidx⟩:=Kp.1 (hin _ ⟨i,k,hi,hl,hkl,rfl⟩);have hb:=hπ idx _ hidx;have hlt:F.gs+5+idx<w'':=by rw[hsz];have:=(ym.1 hidx).1;lia
  have ho'':=yl hlt;have e1:=hL.e _ _ (by show F.gs+5<=_;lia) ho'';rw[hb,(hp i hi).1.e k o hl hko]at e1;injection e1 with e1;have e2:=obj_back e1.symm;rw[obj_comp]at e2;have e3:(π''.MS.Mg (Ps i)).f k=F.gs+5+idx:=by show π''.i ((Ps i).f k)=_;rw[<-hb,π''.a]
  rw[e3,ho'',e2]
 obtain⟨idx,rfl⟩:∃idx,r=F.gs+5+idx:=⟨r-(F.gs+5),by have:F.gs+5<=r:=hl;lia⟩;have hidx:idx<(fst++new).length:=ω;have he:=yh hidx;have hb:=hπ idx _ he;by_cases hlt:F.gs+5+idx<w
 .by_cases hkr:Kept (F.gs+5+idx)
  exact .inl ⟨hlt,hkr⟩;obtain⟨i,k,h1,h2,h3,h4⟩:=hnk _ hl hlt hkr;exact .inr ⟨i,k,h1,h2,h3,by rw[h4,hπ' _ hlt]⟩
 have hm:(fst++new)[idx]∈new:=by rw[List.getElem_append_right (by rw[hlen];lia)];exact AF _
 obtain⟨i,k,h1,h2,h3,h4⟩:=((hnew _).1 hm).2.1;exact .inr ⟨i,k,h1,h2,h3,by rw[h4,hb]⟩
