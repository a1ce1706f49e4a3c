import Derived.Test.YtoklolfaemhfnaaGreatDoorZbo
set_option maxRecDepth 100000
set_option maxHeartbeats 0
set_option linter.defProp false
open Go.Proofs.Tryz (prog)
namespace Go.Proofs.YtoklolfaemhfnaaGreatDoor
section
open Go.RowKit
open Go.Cr Go.Conc
open Go.Pm (Perm Loose Among merge)
open Md (PS Grp)
variable {gb pb:Nat}{bl:Nat->Nat}{Fp Bw Os:Nat->Nat->Prop}{G:Grp}{st':Nat->PS}{π:Perm}{w wa wa':World}
def E5(h:Loose fam π w wa)(hs:Go.Pm.Shut fam w)(b4:Tabs wa')(g:GQ w gb pb bl Fp (fun _=>False) G (sN))(a6:G.a=[])
 (a1:∀i,i<G.n->¬Bw i gb/\¬Bw i pb) (b1:wa.heap.size<=wa')
 (E:∀r,7<=r->r<w.heap.size->(∀i,i<G.n->¬Bw i r)->wa'.heap[π.f r]?=wa.heap[π.f r]?)
 (hq:∀i,i<G.n->KU (π.f (bl i)) (st' i) (fun x=>∃r,Bw i r/\π.f r=x) (Os i) wa') (Q:∀i k,i<G.n->k<G.n->i≠k->∀b,Os i b->¬Os k b)
 (O:∀i,i<G.n->∀r,7<=r->r<w.heap.size->(∀j,j<G.n->¬Bw j r)->¬Os i (π.f r)) :
 ∃ (q : World) (a : Perm) (V : Nat -> Nat -> Prop), Loose fam a q wa' /\ Go.Pm.Shut fam q /\ Tabs q /\ w.heap.size <= q /\ (∀ r, r < w.heap.size -> a.f r = π.f r) /\ (∀ r, 7 <= r -> r < w.heap.size -> (∀ i, i < G.n -> ¬ Bw i r) -> q.heap[r]? = w.heap[r]?) /\
   (∀r,7<=r->r<q.heap.size->(r<w.heap.size/\∀i,i<G.n->¬Bw i r)\/∃i,i<G.n/\Os i (a.f r))/\GQ q gb pb bl V (fun _=>False) { G with b:=st' } (sN)/\(∀i x,i<G.n->V i x->Bw i x\/w.heap.size<=x):=by
 have a0:∀i,∃t:Perm × World × Nat × (Nat->Prop),i<G.n->Loose fam t.1 t.2.1 wa'/\Go.Pm.Shut fam t.2.1/\Among fam t.1 t.2.1.heap.size (Os i)/\(∀x,(∃r,Bw i r/\π.f r=x)->∃r,7<=r/\r<t.2.1.heap.size/\t.1.f r=x)/\t.1.f t.2.2.1=π.f (bl i)/\(∀x,t.2.2.2 x->7<=x/\x<t.2.1.heap.size)/\PZ t.2.1 t.2.2.2 t.2.2.1 (st' i):=fun i=>by
  by_cases c:i<G.n
  ·obtain⟨l,W,b,F,hh⟩:=hq i c;exact⟨(l,W,b,F),fun _=>hh⟩
  ·exact⟨(Perm.id,w,0,fun _=>False),fun h=>absurd h c⟩
 obtain⟨T,hT⟩:=Classical.axiomOfChoice a0;obtain⟨l,a2⟩:∃l:Nat->Perm,l=fun i=>(T i).1:=⟨_,rfl⟩;obtain⟨W,hW⟩:∃W:Nat->World,W=fun i=>(T i).2.1:=⟨_,rfl⟩;obtain⟨b,C⟩:∃b:Nat->Nat,b=fun i=>(T i).2.2.1:=⟨_,rfl⟩;obtain⟨F,hF⟩:∃F:Nat->Nat->Prop,F=fun i=>(T i).2.2.2:=⟨_,rfl⟩;have H:∀i,i<G.n->Loose fam (l i) (W i) wa'/\Go.Pm.Shut fam (W i)/\Among fam (l i) (W i).heap.size (Os i)/\(∀x,(∃r,Bw i r/\π.f r=x)->∃r,7<=r/\r<(W i).heap.size/\(l i).f r=x)/\(l i).f (b i)=π.f (bl i)/\(∀x,F i x->7<=x/\x<(W i).heap.size)/\PZ (W i) (F i) (b i) (st' i):=by
  subst a2 hW C hF;exact hT
 clear hT a2 hW C hF a0 hq;clear T;obtain⟨q,a,p,a8,a7,s,a3,hK,u,R, -⟩:=merge h hs (yr h.a b1) (fun i c=>⟨(H i c).1,(H i c).2.1⟩) (fun r o hl b5 y=>(E r hl (yk.1 y).1 b5).trans (h.e r o hl y)) (fun r hl y hn=>by
  have:∃i,i<G.n/\Bw i r:=Classical.byContradiction fun K=>hn fun i c C=>K ⟨i,c,C⟩;obtain⟨i,c,b2⟩:=this;obtain⟨k,m,P,A⟩:=(H i c).2.2.2.1 _ ⟨r,b2,rfl⟩;exact⟨i,k,c,m,P,A⟩)
 have X:=bR b4 fun x d=>a3 x d;have a4:∀r,r<7->a.i r=r:=fun r y=>by
  have:=p.d r y;rw[<-this,a.a,this]
 have b0:∀i,i<G.n->Loose fam (a.MS.Mg (l i)) (W i) q:=fun i c=>by
  refine⟨u i c,fun r y=>?_,(H i c).1.c,p.c,p.os.symm.trans (H i c).1.os,fun f=>?_,?_⟩
  ·show a.i _=r;rw[(H i c).1.d r y];exact a4 r y
  ·show a.j _=f;rw[(H i c).1.g];have:=a.d f;rwa [p.g] at this
  ·show (a.b != (l i).b)=false;rw[p.b,(H i c).1.b];rfl
 have z:(∀i,i<G.n->¬Bw i gb)/\∀i,i<G.n->¬Bw i pb:=⟨fun i c=>(a1 i c).1,fun i c=>(a1 i c).2⟩;have L:=g.net.a.f;have I:=g.d.f;have Z:=fun i c=>Cl.a (b0 i c) (H i c).2.1 X;have v:∀i x,i<G.n->(∃r,7<=r/\r<(W i).heap.size/\(a.MS.Mg (l i)).f r=x)->Os i (a.f x):=fun i x c ⟨r,m,P,A⟩=>by
  have h4:a.f x=(l i).f r:=by
   rw[<-A];exact a.c _
  rw[h4];exact(H i c).2.2.1 r m P
 refine⟨q,a,fun i x=>∃r,7<=r/\r<(W i).heap.size/\(a.MS.Mg (l i)).f r=x,p,a8,X,a7,s,hK,fun r m P=>?_,⟨⟨(hK gb g.g.1 L z.1).trans g.net.a,by show World.ownsRow q 0 111 2 _ G.a.length (ar G.a);rw[a6];exact World.ownsRow_nil _ _ _ _,fun x d=>by cases d⟩,(hK pb g.g.2 I z.2).trans g.d,fun i c=>?_,fun i j x c D d hy=>?_,fun i x c d h=>h,fun i c=>⟨fun d=>?_,fun d=>?_⟩,⟨id,id⟩,g.t,fun x d=>d.elim,Z,g.g,fun x d=>d.elim⟩,fun i x c d=>?_⟩
 ·rcases R r m P with A|⟨i,k,c,A,h4,h5⟩
  ·exact .inl A
  ·exact .inr ⟨i,c,by rw[<-h5];exact(H i c).2.2.1 k A h4⟩
 ·have a5:i<G.n:=c;obtain⟨-, -, -, -,C,M,hp⟩:=H i a5;have a9:bl i<w:=(g.c i a5).f;have:=hp.c (ρ:=a.MS.Mg (l i)) (w2:=q) (fun r o y ho=>u i c r o (M r y).1 ho);have e:(a.MS.Mg (l i)).f (b i)=bl i:=by
   show a.i ((l i).f (b i))=bl i;rw[C,<-s _ a9,a.a]
  rw[e] at this;exact this.e fun x d=>⟨(a.MS.Mg (l i)).i x,(M _ d).1,(M _ d).2,(a.MS.Mg (l i)).c x⟩
 ·exact Classical.byContradiction fun N=>Q i j c D N _ (v i x c d) (v j x D hy)
 ·have m:=v i gb c d;rw[s gb L] at m;exact O i c gb g.g.1 L z.1 m
 ·have m:=v i pb c d;rw[s pb I] at m;exact O i c pb g.g.2 I z.2 m
 ·rcases Fs x w.heap.size with S|Y
  ·left;have m:=v i x c d;rw[s x S] at m;have b3:=((Z i c).d x d).1;apply Classical.byContradiction;intro K;by_cases B:∃j,j<G.n/\Bw j x
   ·obtain⟨j,D,U⟩:=B;have N:i≠j:=fun e=>K (e▸U);obtain⟨r,P,A,h4⟩:=(H j D).2.2.2.1 _ ⟨x,U,rfl⟩;have h5:=(H j D).2.2.1 r P A;rw[h4] at h5;exact Q i j c D N _ m h5
   ·exact O i c x b3 S (fun j D C=>B ⟨j,D,C⟩) m
  ·exact .inr Y
end
section
open Go.RowKit
open Go.Cr Go.Conc
open Go.Pm (Perm Loose Among Sup Ext Rely)
open Md (PS Grp Book GW carried)
structure Tq (w:World) (FG:Nat->Prop) (gb pb:Nat) (bl:Nat->Nat) (Fp:Nat->Nat->Prop) (G:Grp) (nv:Value):Prop where
 f:GQ w gb pb bl Fp (fun _=>False) { G with a:=[] } (sN)
 e:∀x,Wh gb pb G.n Fp (fun _=>False) x->FG x
 a:w.ownsRow 0 111 2 nv G.a.length (ar G.a)
 b:∀g,nv.ownBlock=some g->FG g/\7<=g/\g≠gb/\g≠pb/\∀i,i<G.n->¬Fp i g
section
variable {w w':World}{FG:Nat->Prop}{gb pb:Nat}{bl:Nat->Nat}{Fp:Nat->Nat->Prop}{G:Grp}{nv:Value}
def Cp(g:GY w FG gb G):∃l p o m,Calls prog 59 #[pT gb 1] w fun e n=>e=.returned m/\n.heap.size=w.heap.size/\(∀k,k≠gb->n.heap[k]?=w.heap[k]?)/\Tq n FG gb l p o G m:=by
 obtain⟨l,p,o,t,m,g,q⟩:=g;refine⟨l,p,o,m,(qR g.net).mono ?_⟩;rintro e n ⟨rfl,rfl⟩;have d:=(ej.d gb w).a 2 (Value.slice none 0 0);have j:=fun k s=>d.block k s;have c:=d.size;have r:=fun i x b a=>j x fun e=>(g.a i b).1 (e▸a);refine⟨rfl,c,j,⟨⟨⟨g.net.a.e 2 _,World.ownsRow_nil _ _ _ _,fun x a=>by cases a⟩,(j l (fun e=>g.t e.symm)).trans g.d,fun i b=>(g.c i b).a (fun x a _=>r i x b a) (by rw[c];exact yb _),g.dis,fun i x b a h=>h,g.a,⟨id,id⟩,g.t,fun x a=>a.elim,fun i b=>(g.q i b).c (fun x a=>r i x b a) (fun x a=>j x (fun e=>by have:=g.g.1;omega)) (by rw[c];exact yb _),g.g,fun x a=>a.elim⟩,fun x a=>q x ?_,?_,fun x a=>?_⟩⟩
 ·rcases a with h|h|h|h
  ·exact .inl h
  ·exact .inr (.inl h)
  ·exact h.elim
  ·exact .inr (.inr (.inr h))
 ·exact aj g.net.b.d fun x a=>j x (fun e=>g.r.1 (e▸g.net.b.c x a))
 ·have f:=g.net.b.c x a;exact⟨q x (.inr (.inr (.inl f))),g.u x f,fun e=>g.r.1 (e▸f),fun e=>g.r.2 (e▸f),fun i b h=>g.e i x b h f⟩
def Tq.d(t:Tq w FG gb pb bl Fp G nv)(c:∀k,k<w.heap.size->w'.heap[k]?=w.heap[k]?)(b:w.heap.size<=w'):Tq w' FG gb pb bl Fp G nv:=
 ⟨t.f.k (fun x a=>c x (t.f.z a).2) (fun x a=>c x (yg a t.f.lw)) b,t.e,aj t.a fun x a=>c x (t.a.lt x a).2,t.b⟩
def E7(t:Tq w FG gb pb bl Fp G nv)(h:G.n<=6)(l:G.a.length<=1000000)(d:∀x∈G.a,∃j:Nat,j<G.n/\x.1=(j:Int)):Calls prog 61 #[nv,.int .i64 G.n] w fun e a=>e=.returned (sT w G.n G.n)/\(∀k,k<w.heap.size->a.heap[k]?=w.heap[k]?)/\w.heap.size<=a/\a.os=w.os/\∃p,CF a w.heap.size w.heap.size G.n p (eC G.a):=by
 obtain⟨o,m,f⟩:=bG t.a;have g:eB w (fun _=>True) 111 2 _ _ _:=⟨f▸t.a,fun _ _=>trivial⟩;rw[f];refine(Co G.n h o m g l d).mono ?_;rintro e a ⟨rfl,c,b⟩;exact⟨rfl,fun k i=>c.block k i,c.size,c.os,b⟩
def qk(a:List bC)(j:Nat):(eC a j).map Value.string=(Grp.MT a j).map (fun s=>Value.string ⟨s.toArray⟩)/\(eC a j).length=(Grp.MT a j).length:=by
 have e:(fun x:bC=>decide (x.1=(j:Int)))=fun c=>c.1 == (j:Int):=by
  funext x;rw[Bool.eq_iff_iff];simp
 unfold eC Grp.MT;rw[e];refine⟨?_,ς⟩;rw[AD,AD];refine GU fun x _=>?_;simp
end
def Mw(c:gN)(P0 G0 PB:Nat)(BL:Nat->Nat)(J:zV)(L:List (Nat × Obj))(O:Nat->Prop)(wa:World):Prop:=
 ∃(π:Perm) (w:World) (pp gb pb:Nat) (bl:Nat->Nat) (Fp:Nat->Nat->Prop) (Fn:Nat->Prop) (G:Grp) (cr:Book) (nv:Value),Gh π w wa O/\lK L O π w.heap.size wa/\π.f pp=P0/\π.f gb=G0/\π.f pb=PB/\(∀i,i<G.n->π.f (bl i)=BL i)/\7<=pp/\CC w pp gb c.n c.d c.b cr c.a/\¬Wh gb pb G.n Fp Fn pp/\GQ w gb pb bl Fp Fn G nv/\G.n=c.n/\J G cr
section
variable {c:gN}{P0 G0 PB:Nat}{BL:Nat->Nat}{J J':zV}{L:List (Nat × Obj)}{O K:Nat->Prop}{A:World->Prop}{X:Event->Prop}{Stop:(Nat->Prop)->Goroutine->World->Prop}{wa waB:World}
def Mw.rely(h:Mw c P0 G0 PB BL J L O wa)(i:∀b,b<2->K b)(a:Rely O K A wa waB):Mw c P0 G0 PB BL J L O waB:=by
 obtain⟨p,w,k,f,e,o,n,q,G,m,g,l,j,d⟩:=h;exact⟨p,w,k,f,e,o,n,q,G,m,g,l.rely i a,j.rely a,d⟩
def Mw.d(h:Mw c P0 G0 PB BL J L O wa)(t:∀G a,J G a->J' G a):Mw c P0 G0 PB BL J' L O wa:=by
 obtain⟨x,w,l,r,f,o,m,p,G,a,s,n,u,q,j,y,i,v,k,g,e,b,d⟩:=h;exact⟨x,w,l,r,f,o,m,p,G,a,s,n,u,q,j,y,i,v,k,g,e,b,t _ _ d⟩
def Mw.a(h:Mw c P0 G0 PB BL J L O wa):O G0/\O PB/\wa.cell? (aT G0 0)=some (sT PB c.n c.n)/\∀i,i<c.n->wa.cell? (aT PB i)=some (.pointer (some ⟨BL i,0,none⟩)):=by
 obtain⟨t,w,p,l,k,s,q,u,G,r,m,d,o, -,rfl,rfl,a, -, -, -,g,e, -⟩:=h;have f:=d.b g.g.1 (g.net.a.a 0 _ rfl);refine⟨f.2,d.c k g.g.2 g.d.f,by rw[<-e];simpa[Addr.pm] using f.1,fun i b=>?_⟩;rw[<-e] at b;have j:=d.b g.g.2 (g.b b);have:=j.1;simp only[Go.Pm.bh,yp,Addr.pm,a i b] at this;exact this
def Mw.b(h:Mw c P0 G0 PB BL J L O wa)(hK:∀b,b<2->K b){k:Nat}(hk:k<c.n)(hl:∀G s,J G s->Md.Wf (G.b k)/\G.a.length<=4000/\(G.b k).e.length<=60000+6 * (1+(G.b k).o.length)){Z:Frame}{o:List Frame}
 (U:∀M m,Mw c P0 G0 PB BL (fun G s=>∃G1,J G1 s/\G=G1.MB k) L M m->Go.Pm.Way prog true K A X Stop M (Go.Conc.G (Z.finish (.tuple #[])) o) m) :
 Go.Pm.Way prog true K A X Stop O (Go.Conc.G (Frame.enter prog 62 #[pT G0 0,.pointer (some ⟨BL k,0,none⟩)] .normal) (Z::o)) wa:=by
 obtain⟨π,w,H,r,E,q,I,Q,G,s,nv,h1,h2,rfl,rfl,rfl,y,h5,W,C,g,N,V⟩:=h;have D:=g.net.a.f;have P:=g.d.f;have z:=af.f W;have f:k<G.n:=by rw[N];exact hk
 have p:∀i,i<G.n->7<=q i/\q i<w.heap.size:=fun i t=>⟨g.lp t (g.c i t).d,(g.c i t).f⟩;obtain⟨wf,a3,a2⟩:=hl G s V;have a0:=g.v f wf;refine fE hK h1 h2 rfl rfl (args:=#[pT r 0,.pointer (some ⟨q k,0,none⟩)]) (fun v Y=>?_) (by simp[Addr.pm,y k f]) (R:=fun e u=>e=.returned (.tuple #[])/\(∀x,x<w.heap.size->¬Wh r E G.n I Q x->u.heap[x]?=w.heap[x]?)/\∃d j,GQ u r E q I d (G.MB k) j/\∀x,d x->aY Q w x) (fun τ _=>?_) (fun e u h=>⟨_,h.1⟩) fun v u S m M hR hg hL a1 a _=>?_
 ·simp only[Cy,yF,yU,or_false] at Y;rcases Y with rfl|rfl
  ·exact jY g.g.1 D
  ·exact jY (p k f).1 (p k f).2
 ·have F:GQ (w.tp τ) r E q I Q G nv:=g.k (fun _ _=>rfl) (fun _ _=>rfl) (yb _);refine(F.p f ω).mono ?_;rintro e u ⟨rfl,T,d,j,F,R⟩;exact⟨rfl,fun x l N=>T.block x l N,d,j,F,R⟩
 ·obtain⟨e,B,d,j,F,R⟩:=hR;injection e with e;subst e;refine U M m ⟨S,u,H,r,E,q,I,d,G.MB k,s,j,hg,hL,a H z,a r D,a E P,fun i t=>(a _ (p i t).2).trans (y i t),h5,(B H z C).trans W,fun l=>?_,F,N,G,V,rfl⟩;rcases l with l|l|l|l
  ·exact C (.inl l)
  ·exact C (.inr (.inl l))
  ·rcases R H l with h|h
   ·exact C (.inr (.inr (.inl h)))
   ·omega
  ·exact C (.inr (.inr (.inr l)))
def Mw.e(h:Mw c P0 G0 PB BL J L O wa):Mq c P0 G0 J L O wa:=by
 obtain⟨r,w,l,e,d,q,n,t,G,o,f,p,k,b,j, -, -,s,i,m,g, -,a⟩:=h;exact⟨r,w,l,e,_,G,o,p,k,b,j,s,i,m,⟨d,q,n,t,f,g,fun _ h=>h⟩,a⟩
end
open Go.Pm (Ev)
section
def pZ:Code->Code
 |.seq _ (.seq _ (.seq _ (.seq (.seq _ (.block _ (.loop c))) _)))=>c
 |_=>.skip
def wZ:Code->Code
 |.seq _ (.seq _ (.seq _ (.seq _ t)))=>t
 |_=>.skip
noncomputable def Cd:Code:=pZ (Tryz.f28.body.getD .skip)
noncomputable def IV:Code:=wZ (Tryz.f28.body.getD .skip)
def zA{P:Program}{e:Bool}{K:Nat->Prop}{A:World->Prop}{X:Event->Prop}{d:(Nat->Prop)->Goroutine->World->Prop}{O:Nat->Prop}{w:World}{b:Frame}{a:Act}{f:List Item}{c:Frame}{i:List Frame}{j:Func}{t:Nat}{v:Value}(m:b.kind=.normal)(l:a.defers=[])(k:P.funcs[b.fn]?=some j)(g:j.results=#[.tmp t])(n:a.tmps.getD t undef=v)
 (h:Go.Pm.Way P e K A X d O (G (c.finish v) i) w):Go.Pm.Way P e K A X d O (G { b.at a f with mode:=.returning } (c::i)) w:=
 au rfl (fun w=>by rw[stepG_leave m l k ((results_tmp g _ P w).trans (by rw[n])) (events_results_tmp g _ _)]) h
variable {c:gN}{P0 G0 PB m c3:Nat}{a3:Option Addr}{BL:Nat->Nat}{J:zV}{L:List (Nat × Obj)}{K:Nat->Prop}{A:World->Prop}{X:Event->Prop}{Stop:(Nat->Prop)->Goroutine->World->Prop}
def wM(hn:c.n<=6)(hK:∀b,b<2->K b)(hJ:∀G f,J G f->GW G/\G.n=c.n){cf:Frame}{e:List Frame}
 (hk:∀W v,Mq c P0 G0 (fun G f=>∃a,J a f/\G=a.round) L W v->Go.Pm.Way prog true K A X Stop W (G (cf.finish (.int .i64 m)) e) v) :
 ∀ (r k : Nat), k + r = c.n -> ∀ (O : Nat -> Prop) (M : World) (U T v4 Q S v7 V R F s y w j z i o D H q E h l u t B p x g C : Value), Mw c P0 G0 PB BL (fun G f => ∃ a, J a f /\ G = carried a.MU k) L O M ->
   Go.Pm.Way prog true K A X Stop O (G ((base 28).at ⟨#[pT G0 0,U,T,.slice a3 m c3,v4,Q,S,v7,V,R,F,s,y,w,j,z,i,o,D,H,q,E,sT PB c.n c.n,.int .i64 c.n,.int .i64 k,h,l,u,t,B,p,x,g,C],[]⟩ [.code Cd,.inLoop Cd,.inBlock 0,.code IV]) (cf::e)) M:=by
 intro r;induction r with
 | zero =>
   intro k a0 O M U T v4 Q S v7 V R F s y w j z i o D H q E h l u t B p x g C hI;obtain rfl:k=c.n:=ω;simp only[Cd,IV,pZ,wZ,Tryz.f28,yv];repeat refine wN ?_
   refine wR ?_;refine wV (.bool false) ?_;walk_nrm;repeat refine wN ?_
   refine wF ?_;refine au rfl (fun _=>stepG_exit rfl) ?_;repeat refine wN ?_
   refine wR ?_;refine wV (.slice a3 m c3) ?_;iterate 2 (walk_nrm;refine wV (.int .i64 m) ?_)
   walk_nrm;repeat refine wN ?_
   refine au rfl (fun _=>stepG_ret') ?_;refine zA rfl rfl rfl rfl rfl (hk O M (hI.e.b fun G f hq=>?_));obtain⟨a,Z,rfl⟩:=hq;refine⟨a,Z,?_⟩;unfold Grp.round carried;rw[(hJ a f Z).2]
 | succ r ih =>
   intro k a0 O M U T v4 Q S v7 V R F s y w j z i o D H q E h l u t B p x g C hI;have d:k<c.n:=ω;have a5:k<c.n:=ω;have a6:0<=k:=ω;have a2:IntKind.i64.wrap ((k:Int)+1)=((k+1:Nat):Int):=by rw[IntKind.wrap_i64];omega
   obtain⟨LP,I⟩:∃LP,LP=Cd:=⟨_,rfl⟩;obtain⟨TL,P⟩:∃TL,TL=IV:=⟨_,rfl⟩;rw[<-I,<-P];rw[<-I,<-P] at ih;suffices hX:∀Y,Y=Cd->Go.Pm.Way prog true K A X Stop O (G ((base 28).at ⟨#[pT G0 0,U,T,.slice a3 m c3,v4,Q,S,v7,V,R,F,s,y,w,j,z,i,o,D,H,q,E,sT PB c.n c.n,.int .i64 c.n,.int .i64 k,h,l,u,t,B,p,x,g,C],[]⟩ [.code Y,.inLoop LP,.inBlock 0,.code TL]) (cf::e)) M from hX LP I;intro Y hY;simp only[Cd,pZ,Tryz.f28,yv] at hY;subst hY;repeat refine wN ?_
   refine wR ?_;refine wV (.bool true) ?_;walk_nrm;repeat refine wN ?_
   refine wT ?_;repeat refine wN ?_
   refine wR ?_;refine wV (pT PB k) ?_;walk_nrm;refine ag (v:=.pointer (some ⟨BL k,0,none⟩)) rfl rfl θ (fun a4 N=>?_) ?_
   ·obtain⟨-,sB, -,cB⟩:=(hI.rely hK N).a;have c5:=cB k d;exact⟨by go_simp,by simp[go_sem, *];exact .inl sB⟩
   walk_nrm;refine wV (.pointer (some ⟨BL k,0,none⟩)) ?_;walk_nrm;repeat refine wN ?_
   refine wR ?_;refine wV (pT G0 0) ?_;walk_nrm;refine wV (.pointer (some ⟨BL k,0,none⟩)) ?_;walk_nrm;refine dS rfl rfl θ rfl (fn:=Tryz.f62) rfl κ rfl ?_;walk_nrm;refine Mw.b hI hK d (fun G f hq=>?_) fun W v a1=>?_
   ·obtain⟨a,Z,rfl⟩:=hq;obtain⟨gw,e1⟩:=hJ a f Z;obtain⟨r1,r2⟩:=gw.round (i:=k) (by rw[e1];exact d);have h3:=(Md.ti a.MU (oI _) k).1;have h4:a.MU.c<=4000:=gw.lim;rw[Md.lj,if_neg ω];exact⟨r1,ω,r2⟩
   rw[Frame.finish_at];walk_nrm;repeat refine wN ?_
   refine wR ?_;iterate 2 (refine wV (.int .i64 ((k+1:Nat):Int)) ?_;walk_nrm)
   repeat refine wN ?_
   refine au rfl (fun _=>stepG_inLoop) ?_;apply ih (k+1) ω W v;exact a1.d fun G f ⟨a,⟨G2,h2,e2⟩,e1⟩=>⟨G2,h2,by rw[e1,e2,Md.lU]⟩
end
open Go.Pm (loose_live)
variable {Wg bx:Nat}
section
structure I9 (c:gN) (P0 G0 gb lb pb base pp:Nat) (L:List (Nat × Obj)) (bl:Nat->Nat) (Fp:Nat->Nat->Prop) (G:Grp) (cr:Book) (vs:Array Value) (π:Perm) (w0 w wa:World) (O:Nat->Prop):Prop where
 e:Gh π w wa O
 g:lK L O π w.heap.size wa
 v:π.f pp=P0
 u:π.f gb=G0
 p:7<=pp
 q:Go.Pm.Shut fam w0
 size:w0.heap.size=base
 i:∀k,k<base->w.heap[k]?=w0.heap[k]?
 r:base<=w
 os:w.os=w0.os
 t:CC w0 pp gb c.n c.d c.b cr c.a
 d:¬Wh gb pb G.n Fp (fun _=>False) pp
 a:GQ w0 gb pb bl Fp (fun _=>False) { G with a:=[] } (sN)
 b:CF w base lb G.n vs (eC G.a)
 o:GW G
 s:G.n=c.n
 y:∀x∈G.a,x.2.size<=1000000
section
variable {c:gN}{P0 G0 gb lb pb bs pp:Nat}{L:List (Nat × Obj)}{bl:Nat->Nat}{Fp:Nat->Nat->Prop}{G:Grp}{cr:Book}{vs:Array Value}{π:Perm}{w0 w wa wa':World}{O K:Nat->Prop}
def I9.h(a:I9 c P0 G0 gb lb pb bs pp L bl Fp G cr vs π w0 w wa O):bs<=lb/\lb<w/\7<=bs:=by
 refine⟨a.b.f,a.b.a.f,?_⟩;have e:=a.a.g.1;have d:=a.a.net.a.f;have b:=a.size;omega
def I9.j(a:I9 c P0 G0 gb lb pb bs pp L bl Fp G cr vs π w0 w wa O){i:Nat}(d:i<G.n):∃v,vs[i]?=some v/\∀x,Fq (Fp i) v x->7<=x/\x<w.heap.size/\x≠gb/\x≠pb/\x≠lb/\(x<bs->Fp i x)/\(Fp i x->x<bs):=by
 obtain⟨v,j⟩:∃v,vs[i]?=some v:=⟨_,yl (by rw[a.b.size];exact d)⟩;obtain⟨r,t,s⟩:=a.h;have k:=a.r;have q:=a.a.net.a.f;have l:=a.a.d.f;have o:=a.size;have f:∀x,Fp i x->x<bs:=fun x b=>by
  have:=a.a.s d b;omega
 refine⟨v,j,fun x b=>?_⟩;rcases b with b|b
 ·have p:=f x b;exact⟨((a.a.q i d).d x b).1,ω,fun e=>(a.a.a i d).1 (e▸b),fun e=>(a.a.a i d).2 (e▸b),ω,fun _=>b,f x⟩
 ·have g:=a.b.b i v d j;obtain⟨p,m⟩:=g.lt x b;exact⟨ω,m,ω,ω,fun e=>lD g a.b.a (by rw[b,e]),fun h=>ω,f x⟩
def HU(Fp:Nat->Nat->Prop)(vs:Array Value)(π:Perm)(i:Nat):Nat->Prop:=fun x=>∃r,Fq (Fp i) (vs.getD i undef) r/\π.f r=x
def I9.start(a:I9 c P0 G0 gb lb pb bs pp L bl Fp G cr vs π w0 w wa O)(C:qp O K wa):Go.Cr.qY O K (π.f gb) (π.f pb) (π.f lb) G.n G.n G.n (fun i=>π.f (bl i)) (fun i=>(vs.getD i undef).pm π) (HU Fp vs π) wa:=by
 obtain⟨V,T,U⟩:=a.h;have S:=a.a.net.a.f;have I:=a.a.d.f;have N:=a.size;have H:=a.r;have B:af w gb 97 _:=(a.i gb ω).trans a.a.net.a;have D:af w pb 102 _:=(a.i pb ω).trans a.a.d;have o:∀r,7<=r->r<w.heap.size->O (π.f r):=fun r t x=>a.e.c r t x;have p:∀i v,vs[i]?=some v->vs.getD i undef=v:=fun i v h=>by rw[ya,h];rfl
 refine⟨o gb a.a.g.1 ω,o pb a.a.g.2 ω,o lb ω T,a.o.b,⟨fun e=>?_,fun e=>?_⟩,?_,fun i m=>?_,fun i m=>?_,fun i m b E=>?_,fun i j m z y b E A=>?_,C.c,C.a,C.ok⟩
 ·have:=π.Nd e;omega
 ·have:=π.Nd e;omega
 ·have:=a.e.b a.a.g.1 (B.a 0 _ rfl);simpa[Addr.pm] using this.1
 ·have:=a.e.b a.a.g.2 (D.a i (.pointer (some ⟨bl i,0,none⟩)) (by simp[m]));simpa[Addr.pm] using this.1
 ·obtain⟨v,s, -⟩:=a.j m;rw[p i v s];exact(a.e.b ω (a.b.a.a i v s)).1
 ·obtain⟨v,s,g⟩:=a.j m;obtain⟨r,k,rfl⟩:=E;rw[p i v s] at k;obtain⟨t,x,P,M,R, -⟩:=g r k;exact⟨o r t x,fun e=>P (π.Nd e),fun e=>M (π.Nd e),fun e=>R (π.Nd e)⟩
 ·obtain⟨v,s,g⟩:=a.j m;obtain⟨u,F,q⟩:=a.j z;obtain⟨r,k,rfl⟩:=E;obtain⟨Q,d,e⟩:=A;obtain rfl:=π.Nd e;rw[p i v s] at k;rw[p j u F] at d;have t:=g _ k;have x:=q _ d;by_cases l:Q<bs
  ·exact y (a.a.dis i j _ m z (t.2.2.2.2.2.1 l) (x.2.2.2.2.2.1 l))
  ·rcases k with k|k
   ·exact l (t.2.2.2.2.2.2 k)
   ·rcases d with d|d
    ·exact l (x.2.2.2.2.2.2 d)
    ·exact y (a.b.dis i j v u _ m z s F k d)
end
variable {c:gN}{P0 G0 gb lb pb bs pp:Nat}{L:List (Nat × Obj)}{bl:Nat->Nat}{Fp:Nat->Nat->Prop}{G:Grp}{cr:Book}{vs:Array Value}{π:Perm}{w0 w wa wa':World}{O K:Nat->Prop}
def Lr(bl:Nat->Nat)(Fp:Nat->Nat->Prop)(G:Grp)(vs:Array Value)(π:Perm)(k:Nat):bE:=KU (π.f (bl k)) ((G.b k).Nc (Grp.MT G.a k)) (HU Fp vs π k)
def I9.l(a:I9 c P0 G0 gb lb pb bs pp L bl Fp G cr vs π w0 w wa O)(W:qp O K wa)(S:∀b,b<2->K b)(C:wa.heap.size<=Wg){k:Nat}(m:k<G.n) :
 zE K (π.f lb) G.n G.n (fun i=>π.f (bl i)) (fun i=>(vs.getD i undef).pm π) (HU Fp vs π) (Lr bl Fp G vs π) wa Wg bx k:=by
 obtain⟨v,D,q⟩:=a.j m;have u:vs.getD k undef=v:=by rw[ya,D];rfl
 have Q:=a.start W;have V:=a.size;have l:∀x,x<w0.heap.size->w.heap[x]?=w0.heap[x]?:=fun x o=>a.i x ω;have h:=a.a.q k m;have p:w0.heap.size<=w:=by have:=a.r;omega
 have H:=h.c (fun x o=>l x (h.j o)) (fun x o=>l x (yg o h.f)) p;have hp:=(a.a.c k m).a (fun x _ o=>l x o) p;have d:=a.b.b k v m D;rw[(qk G.a k).1,(qk G.a k).2] at d;have F:(Grp.MT G.a k).length<=40000:=by
  have z:=Md.rG G.a k;have B:=a.o.net;have U:=a.o.lim;omega
 have I:∀s∈Grp.MT G.a k,s.length<=140737488351232:=fun s Y=>by
  obtain⟨x,o,rfl⟩:=yW.1 Y;have z:=a.y x (yM.1 o).1;have B:x.2.data.toList.length=x.2.size:=rfl;omega
 refine CR m C (fun b t=>Q.c b (Q.f k m b t).1) (fun O' w1 w2 z B U h4=>KU.a O' w1 w2 z B U h4) fun R A y hR j M E=>?_;have:=GN (A:=A) a.e.a hp H (a.o.a k m) (a.o.snt k m) F I d a.h.2.2 (fun g P e fz N Z=>a.b.flat k v g P e fz m D N Z) (fun g N T=>by
  have z:=(q g (.inl T)).2.2.2.2.2.2 T;have B:=(d.lt g N).1;omega) (fun b t=>hR b (S b t)) (leafLaw.a wa y (fun b t=>j b (.inr (S b t))) a.e.e) (fun r X=>j _ (.inl ⟨r,by rw[u];exact X,rfl⟩)) M E
 unfold Lr HU;simp only[u];exact this
def I9.m(a:I9 c P0 G0 gb lb pb bs pp L bl Fp G cr vs π w0 w wa O)(ho:qp O K wa)(hK:∀b,b<2->K b){T Kn:Nat->Prop}{F:Nat->Nat->Prop}(j:At O K (π.f lb) G.n G.n (HU Fp vs π) wa Wg bx G.n T Kn wa')
 (hq:∀i,i<G.n->Lr bl Fp G vs π i (F i) wa') (R:∀i,i<G.n->∀b,F i b->¬T b/\¬Kn b/\b<wa'.heap.size) (U:∀i k,i<G.n->k<G.n->i≠k->∀b,F i b->¬F k b) :
 ∃O':Nat->Prop,(∀b,O' b->T b\/∃i,i<G.n/\F i b)/\qp O' (fun b=>b<2) wa'/\Mw c P0 G0 (π.f pb) (fun i=>π.f (bl i)) (fun G' Z=>G'=G.MU/\Z=cr) L O' wa':=by
 obtain⟨l1,l2,l3⟩:=a.h;have a6:=a.size;have a7:=a.r;have hS:=a.start ho;have S:=leafLaw.a wa wa' (fun b B=>j.f b (hK b B)) a.e.e;have a4:Loose fam π w0 wa:=⟨fun r o hl M=>a.e.a.e r o hl ((a.i r (by have:=(yk.1 M).1;omega)).trans M),a.e.a.d,by show 7<=w0.heap.size;omega,a.e.a.a,by rw[a.e.a.os];exact a.os,a.e.a.g,a.e.a.b⟩;have nb:∀r,(∀i,i<G.n->¬Fq (Fp i) (vs.getD i undef) r)->∀i,i<G.n->¬HU Fp vs π i (π.f r):=fun r M i p ⟨r',d,l⟩=>M i p (π.Nd l▸d);have N:∀r,7<=r->r<w0.heap.size->O (π.f r):=fun r d l=>a.e.c r d ω;have V:∀r,r<w0.heap.size->π.f r≠π.f lb:=fun r M e=>by have:=π.Nd e;omega
 have Q:=fun r d l s=>j.h _ (N r d l) (nb r s) (V r l);have a5:∀i,i<G.n->¬Fq (Fp i) (vs.getD i undef) gb/\¬Fq (Fp i) (vs.getD i undef) pb:=fun i p=>by
  obtain⟨v,H,m⟩:=a.j p;have y:vs.getD i undef=v:=by rw[ya,H];rfl
  rw[y];exact⟨fun h=>(m _ h).2.2.1 rfl,fun h=>(m _ h).2.2.2.1 rfl⟩
 obtain⟨w',D,a0,z,X,a1,a8,u,a3,m,g',W⟩:=E5 a4 a.q S a.a rfl a5 j.size (fun r d l s=>j.d _ (N r d l) (nb r s)) hq U (fun i p r d l s h4=>(R i p _ h4).1 (Q r d l s));have C:=af.f a.t;have P:∀i,i<G.n->¬Fq (Fp i) (vs.getD i undef) pp:=fun i p h=>by
  obtain⟨v,H,A⟩:=a.j p;have y:vs.getD i undef=v:=by rw[ya,H];rfl
  rw[y] at h;exact a.d (.inr (.inr (.inr ⟨i,p,(A pp h).2.2.2.2.2.1 ω⟩)))
 have a2:=a.a.net.a.f;have E:=a.a.d.f;have q:∀x∈L,T x.1/\x.1<wa.heap.size/\wa'.heap[x.1]?=some x.2/\∀r,7<=r->r<w.heap.size->π.f r≠x.1:=fun x t=>by
  obtain⟨z1,z2,z3⟩:=a.g x t;have I:∀i,i<G.n->¬HU Fp vs π i x.1:=fun i p ⟨r,d,l⟩=>by
   obtain⟨v,H,A⟩:=a.j p;have y:vs.getD i undef=v:=by rw[ya,H];rfl
   rw[y] at d;exact z3 r (A r d).1 (A r d).2.1 l
  exact⟨j.h _ z1 I fun e=>z3 lb ω l2 e.symm,(yk.1 z2).1,(j.d _ z1 I).trans z2,z3⟩
 refine⟨fun b=>(∃r,7<=r/\r<w'.heap.size/\D.f r=b)\/∃x∈L,x.1=b,fun b B=>?_,⟨fun b B=>?_,fun b B=>?_,fun b B Y=>?_⟩,⟨D,w',pp,gb,pb,bl,a0,fun _=>False,G.MU,cr,_,⟨z,X,a1,S,fun r d l=>.inl ⟨r,d,l,rfl⟩⟩,fun x t=>?_,(u pp C).trans a.v,(u gb a2).trans a.u,u pb E,fun i p=>?_,a.p,(a3 pp a.p C P).trans a.t,fun t=>?_,g',a.s,rfl,rfl⟩⟩
 ·rcases B with ⟨r,d,l,rfl⟩|⟨x,t,rfl⟩
  ·rcases m r d l with ⟨s,h4⟩|s
   ·rw[u r s];exact .inl (Q r d s h4)
   ·exact .inr s
  ·exact .inl (q x t).1
 ·rcases B with ⟨r,d,l,rfl⟩|⟨x,t,rfl⟩
  ·exact z.i.k l
  ·exact yg (q x t).2.1 j.size
 ·have:=z.a;have a9:7<=wa'.heap.size:=this;omega
 ·rcases B with ⟨r,d,l,rfl⟩|⟨x,t,rfl⟩
  ·have:7<=D.f r:=loose_live z d;omega
  ·exact ho.ok _ (a.g x t).1 (hK _ Y)
 ·refine⟨.inr ⟨x,t,rfl⟩,(q x t).2.2.1,fun r d l e=>?_⟩;rcases m r d l with ⟨s, -⟩|⟨i,p,s⟩
  ·rw[u r s] at e;exact(q x t).2.2.2 r d ω e
  ·rw[e] at s;exact(R i p _ s).1 (q x t).1
 ·exact u _ (a.a.c i p).f
 ·rcases t with h|h|h|⟨i,p,h⟩
  ·exact a.d (.inl h)
  ·exact a.d (.inr (.inl h))
  ·exact h
  ·rcases W i pp p h with d|d
   ·exact P i p d
   ·omega
end
variable {c:gN}{P0 G0:Nat}{L:List (Nat × Obj)}{O K:Nat->Prop}{wa:World}{J:zV}{Post:Value->World->Prop}
def KS(c:gN)(P0 G0:Nat)(J:zV)(L:List (Nat × Obj))(Post:Value->World->Prop)(cf:Frame)(rest:List Frame):(Nat->Prop)->Goroutine->World->Prop:=fun OW g wg=>
 ∃ (c' : Frame) (gb lb pb bs pp : Nat) (bl : Nat -> Nat) (Fp : Nat -> Nat -> Prop) (G : Grp) (cr : Book) (vs : Array Value) (π : Perm) (w0 w : World), J G cr /\ g = Go.Conc.G (Frame.enter prog 60 #[.pointer (some ⟨π.f gb, 0, none⟩), .slice (some ⟨π.f lb, 0, none⟩) c.n c.n] .normal) (c' :: cf :: rest) /\ I9 c P0 G0 gb lb pb bs pp L bl Fp G cr vs π w0 w wg OW /\
   ∀Wg O' wa',qp O' (fun b=>b<2) wa'->Mw c P0 G0 (π.f pb) (fun i=>π.f (bl i)) (fun G' cr'=>G'=G.MU/\cr'=cr) L O' wa'->aC prog 148 Post Wg [] .free O' (fun b=>b<2) (Go.Conc.G (c'.finish (.tuple #[])) (cf::rest)) wa'
def wO(hn:1<=c.n/\c.n<=6)(hK:∀b,b<2->K b)(hJ:∀G M,J G M->GW G/\G.n=c.n/\∀x∈G.a,x.2.size<=1000000/\∃j:Nat,j<G.n/\x.1=(j:Int))(h:Mq c P0 G0 J L O wa)(ho:qp O K wa){r:Nat}{cf:Frame}{o:List Frame}
 (b6:∀Wg Q H (m:Nat),qp Q (fun b=>b<2) H->Mq c P0 G0 (fun G' M=>∃F,J F M/\F.a.length=m/\G'=F.round) L Q H->aC prog 148 Post Wg [] .free Q (fun b=>b<2) (G (cf.finish (.int .i64 m)) o) H) :
 aC prog 148 Post r [] .free O K (G (Frame.enter prog 28 #[pT G0 0] .normal) (cf::o)) wa:=by
 have a1:Go.Pm.Way prog true K (Al 148 r .free) (XS r .free) (KS c P0 G0 J L Post cf o) O (G (Frame.enter prog 28 #[pT G0 0] .normal) (cf::o)) wa:=by
  obtain⟨U,w,X,l,FG,G,M,h1,h2,h3,rfl,h5,h6,h7,h8,h9⟩:=h;obtain⟨gw,E,W⟩:=hJ G M h9;have R:=h8.f;have a9:=af.f h6;rw[enter_at _ Tryz.func28 rfl];simp only[Tryz.f28];walk_nrm;repeat refine wN ?_
  refine wR ?_;refine wV (.int .i64 0) ?_;walk_nrm;repeat refine wN ?_
  refine wR ?_;iterate 2 (refine wV (.pointer (some ⟨U.f l,0,none⟩)) ?_;walk_nrm)
  refine wV (.pointer (some ⟨U.f l,1,none⟩)) ?_;walk_nrm;refine dS rfl rfl θ rfl rfl κ rfl ?_;walk_nrm;refine fE hK h1 h2 rfl rfl (args:=#[pT l 1]) (fun v hv=>?_) (by simp[Addr.pm]) (R:=fun e y=>∃T Z Y nv,e=.returned nv/\y.heap.size=w.heap.size/\(∀k,k≠l->y.heap[k]?=w.heap[k]?)/\Tq y FG l T Z Y G nv) (fun τ _=>?_) (fun e y h=>?_) fun v D a0 d2 O1 c2 a7 d0 _ s _=>?_
  ·simp only[Cy,yF,yU,or_false] at hv;subst hv;intro σ a6;have:=a6.1 l R.1 R.2;simp[Addr.pm,this]
  ·obtain⟨T,Z,Y,nv,hc⟩:=Cp (h8.d (w':=w.tp τ) rfl);refine hc.mono ?_;rintro e y ⟨rfl,ha,hb,hc⟩;exact⟨T,Z,Y,nv,rfl,ha,hb,hc⟩
  ·obtain⟨T,Z,Y,nv,h, -⟩:=h;exact⟨_,h⟩
  obtain⟨T,Z,Y,nv,e,V,b3,N⟩:=c2;injection e with e;subst e;obtain⟨ao,vc,hv⟩:=bG N.a;rw[Frame.finish_at,hv];simp only[Go.Pm.jA];generalize hm:G.a.length=m at hv;generalize c7:ao.map _=a3;walk_nrm;have A:=s l R.2;have S:a0.f X=P0:=(s X a9).trans h3;have b0:=N.f.net.a;have b9:X≠l:=fun e=>h7 (N.e _ (.inl e));have b1:CC D X l c.n c.d c.b M c.a:=(b3 X b9).trans h6;refine wV (.slice a3 m vc) ?_;walk_nrm;repeat refine wN ?_
  refine wR ?_;refine wV (.pointer (some ⟨U.f l,0,none⟩)) ?_;walk_nrm;refine wV (.slice a3 m vc) ?_;iterate 3 (walk_nrm;refine wV (.pointer (some ⟨U.f l,0,none⟩)) ?_)
  walk_nrm;refine ag (v:=.slice (some ⟨a0.f T,0,none⟩) c.n c.n) rfl rfl θ (fun B d=>?_) ?_
  ·have c5:=(a7.rely hK d).b N.f.g.1 (b0.a 0 _ rfl);simp only[yf,yd,Go.Pm.jA,yp,Addr.pm,A,E] at c5;obtain⟨c5,sG⟩:=c5;exact⟨by go_simp,by simp[go_sem, *];exact .inl sG⟩
  walk_nrm;refine wV (.int .i64 c.n) ?_;walk_nrm;refine dS rfl rfl θ rfl (fn:=Tryz.f61) rfl κ rfl ?_;walk_nrm;have c0:v.pm a0=.slice a3 m vc:=by rw[hv,<-c7];simp
  refine fE hK a7 d0 (f:=61) rfl rfl (args:=#[v,.int .i64 c.n]) (fun u hu=>?_) (by simp[c0]) (R:=fun e y=>e=.returned (sT D c.n c.n)/\(∀k,k<D.heap.size->y.heap[k]?=D.heap[k]?)/\D.heap.size<=y/\y.os=D.os/\∃vs,CF y D.heap.size D.heap.size G.n vs (eC G.a)) (fun τ _=>?_) (fun e y h=>⟨_,h.1⟩) fun v2 w2 a8 d3 O2 c3 c8 c9 _ t _=>?_
  ·simp only[Cy,yF,yU,or_false] at hu;rcases hu with rfl|rfl
   ·intro σ a6;rcases N.a.2 with ⟨h0, -⟩|⟨g,d4,d5,h0, -⟩
    ·rw[h0];simp
    ·have:σ.f g=g:=a6.1 g (N.b g (by rw[h0];rfl)).2.1 (N.a.lt g (by rw[h0];rfl)).2;rw[h0];simp[Addr.pm,this]
   ·exact eM ς
  ·have b5:=E7 (N.d (w':=D.tp τ) (fun _ _=>rfl) (yb _)) gw.b (by have h1:=gw.net;have h2:=gw.lim;omega) (fun x hx=>(W x hx).2);rw[E] at b5;exact b5.mono fun e y h=>by rw[E];exact h
  obtain⟨e,b8,b4,b2,vs,b7⟩:=c3;injection e with e;subst e;rw[Frame.finish_at];simp only[Go.Pm.jA,yp,Addr.pm];walk_nrm;refine dS rfl rfl θ rfl (fn:=Tryz.f60) rfl κ rfl ?_;walk_nrm;have p:a8.f l=U.f l:=(t l (by rw[V];exact R.2)).trans A;refine .stop fun B d=>⟨_,l,D.heap.size,T,D.heap.size,X,Z,Y,G,M,vs,a8,D,w2,h9,by rw[p],⟨c8.rely hK d,c9.rely d,(t X (by rw[V];exact a9)).trans S,p,h5,a7.d,rfl,b8,b4,b2,b1,fun hx=>h7 (N.e _ hx),N.f,b7,gw,E,fun x hx=>(W x hx).1⟩,fun Wg Q H q P=>?_⟩
  ·have a2:∀b,b<2->(fun b=>b<2) b:=fun b hb=>hb;refine aC.c (lL (Stop:=fun z g i=>g=Go.Conc.G (cf.finish (.int .i64 m)) o/\Mq c P0 (U.f l) (fun G' C=>∃F,(F=G/\C=M)/\G'=F.round) L z i) ?_ q) (fun z g i hS=>?_)
   ·rw[Frame.finish_at];walk_nrm;repeat refine wN ?_
    refine wR ?_;iterate 3 (refine wV (.pointer (some ⟨U.f l,0,none⟩)) ?_;walk_nrm)
    refine ag (v:=.slice (some ⟨a8.f T,0,none⟩) c.n c.n) rfl rfl θ (fun B d=>?_) ?_
    ·obtain⟨sG,sB,c5, -⟩:=(P.rely a2 d).a;exact⟨by go_simp,by simp[go_sem, *];exact .inl sG⟩
    walk_nrm;refine wV (.int .i64 c.n) ?_;walk_nrm;refine wV (.int .i64 ((0:Nat):Int)) ?_;walk_nrm;repeat refine wN ?_
    refine au rfl (fun _=>stepG_loop) ?_;exact wM (J:=fun F C=>F=G/\C=M) (m:=m) (c3:=vc) (a3:=a3) hn.2 a2 (fun F C h=>by rw[h.1];exact⟨gw,E⟩) (fun O4 w4 h4=>.stop fun w5 h5=>⟨rfl,h4.rely a2 h5⟩) c.n 0 ω Q H _ _ _ _ _ _ _ _ _ _ _ _ _ _ _ _ _ _ _ _ _ _ _ _ _ _ _ _ _ (P.d fun G' C h=>⟨G,⟨rfl,h.2⟩,h.1⟩)
   ·obtain⟨⟨rfl,hM⟩,a4⟩:=hS i (.c _ _ _ _);refine b6 Wg z i m a4 (hM.b fun G' C h=>?_);obtain⟨F,⟨rfl,rfl⟩,rfl⟩:=h;exact⟨F,h9,hm,rfl⟩
 refine aC.c (lL a1 ho) (fun z g i hS=>?_)
 ·obtain⟨⟨c',l,lb,T,bs,X,Z,Y,G,M,vs,U,w0,w,hj,rfl,a,a5⟩,I⟩:=hS i (.c _ _ _ _);rw[<-a.s];refine ss (a.start I) (QQ:=Lr Z Y G vs U) (fun Wg bx c6 d6 k hk=>a.l I hK c6 hk) (fun k hk Q w B h1 h2 h3 h4=>KU.a Q w B h1 h2 h3 h4) ?_;intro Wg bx On Kn Os y j hq d1 c4;obtain⟨Q,c1,q,P⟩:=a.m I hK j hq d1 c4;exact(a5 Wg Q y q P).more c1 (fun b hb=>j.s b (hK b hb))
end
section
open Go.RowKit
open Md (PS Grp Wf GW Book)
variable {w w':World}{gb n win lim:Nat}{G:Grp}{FG:Nat->Prop}{f:Codec.Frame}{s:ByteArray}
def wI(a:Codec.dg f=true):1<=(lF f).2.size/\(lF f).2.size<=1000000:=by
 have c:=nN a;have b:(lF f).2.size=(Codec.gT f).length+4:=by
  show (Codec.im f).toArray.size=_;simp only[yJ,Codec.im,yC,Codec.br]
 omega
def GP(b c:UInt8)(d:c≠0):b ^^^ c≠b:=fun h=>by
 have a:=congrArg (fun x=>b ^^^ x) h;simp only[<-UInt8.xor_assoc,UInt8.xor_self,UInt8.zero_xor] at a;grind
def GH{i m:Nat}(e:i<(lF f).2.size)(b:1<=m)(d:m<=255):Codec.bM (cP (lF f).2 i m).data.toList=false:=by
 have a:i<(Codec.im f).length:=by
  have:(lF f).2.size=(Codec.im f).length:=by
   show (Codec.im f).toArray.size=_;simp
  omega
 have c:(cP (lF f).2 i m).data.toList=(Codec.im f).set i ((Codec.im f).getD i 0 ^^^ UInt8.ofNat m):=by simp[cP,lF]
 rw[c,List.set_eq_take_append_cons_drop,if_pos a];refine Codec.Ib f _ _ _ _ ?_ (GP _ _ fun h=>?_)
 ·simp_all
 ·have:=congrArg UInt8.toNat h;simp at this;omega
structure Hm (R:Grp->Prop):Prop where
 gw:∀{G},R G->GW G
 par:∀{G x}{k:Nat},R G->G.a[k]?=some x->∃f,Codec.dg f=true/\x=lF f/\∃j:Nat,j<G.n/\x.1=(j:Int)
 deliver:∀{G} (k:Nat),R G->R (G.deliver k)
 drop:∀{G} (k:Nat),R G->R (G.drop k)
 copy:∀{G} (k:Nat),R G->R (G.copy k)
def xW{a:Type}(x:a):∀(l:List a) (k:Nat),(l.set k x).eraseIdx k=l.eraseIdx k
 |[],k=>by simp
 |_::l,0=>rfl
 |y::l,k+1=>ν
def E8(c:GW G){k j:Nat}{x:bC}(m:G.a[k]?=some x)(d:x.1=(j:Int))(a:j<G.n)(e:Codec.bM s.data.toList=false):({ G with a:=G.a.set k (x.1,s) }:Grp).deliver k=G.drop k:=by
 have l:({ G with a:=G.a.set k (x.1,s) }).a[k]?=some (x.1,s):=by
  show (G.a.set k _)[k]?=_;rw[LL (ym.1 m).1]
 rw[pH l d];have i:(({ G with a:=G.a.set k (x.1,s) }).b j).Mn _=G.b j:=Md.Bt e;rw[i];have b:=c.snt j a;have h:({ G.b j with e:=[] })=G.b j:=by rw[<-b]
 unfold Grp.MB Grp.Nk Grp.drop;simp only[if_true,b,h,xW,Cx];refine congrArg (fun g=>({ n:=G.n,d:=G.d,c:=G.c,b:=g,a:=G.a.eraseIdx k }:Grp)) ?_;grind
def xe(s:ByteArray):∀(n i:Nat) (r:List UInt8),s.size - i=n->(ByteArray.toList.loop s i r).length=n+r.length:=by
 intro n;induction n with
 | zero =>
   intro i r h;unfold ByteArray.toList.loop;grind
 | succ n a =>
   intro i r h;unfold ByteArray.toList.loop;grind
def ub(h:1<=s.size):s.toList.isEmpty=false:=by
 have a:s.toList.length=s.size+0:=xe s _ 0 [] ω;grind
def Ci{R:Grp->Prop}(H:Hm R){cr:Book}{a3:Bool}(pp:Nat)(a9:CC w pp gb n win lim cr a3)(d3:¬FG pp)(gx:GY w FG gb G)(A:R G)(O a b c:Int)(t:ByteArray)(ha:j7 a)(hb:j7 b)(hc:j7 c) :
 Calls prog 57 #[pT pp 0,.agg #[J O,J a,J b,J c,.string t]] w fun e d=>e=.returned (.bool true)/\∃l,GT w d FG gb l/\R l:=by
 obtain⟨v,a2,b9,gc⟩:∃v:Nat->Prop,(∀x,v x->FG x)/\(∀x,v x->x<w.heap.size)/\GY w v gb G:=⟨_,fun x h=>h.1,fun x h=>h.2,gx.e⟩;have hX:af (w.alloc (.cells #[J O,J a,J b,J c,.string t] 51)) w.heap.size 51 #[J O,J a,J b,J c,.string t]:=af.d w _ rfl 51 _;have S:Below w w (w.alloc (.cells #[J O,J a,J b,J c,.string t] 51)):=(Below.refl _ _).alloc (yb _) _;have c6:(w.alloc (.cells #[J O,J a,J b,J c,.string t] 51)).heap.size=w.heap.size+1:=ς;have b3:=af.f a9;have P:=af.c a9 S b3;have a7:=gc.a S;generalize e5:w.alloc _=B at hX S c6 P a7;have p:Hid (GT B B v gb G/\R G):=⟨⟨cW.j _ _,a7.c aY.c⟩,A⟩;have C:Hid (∀d,cW v B d->d.cell? (aT w 0)=some (J O)/\d.cell? (aT w 1)=some (J a)/\d.cell? (aT w 2)=some (J b)/\d.cell? (aT w 3)=some (J c)/\d.cell? (aT pp 0)=some (pT gb 0)):=fun d h=>by
  have I:af d w.heap.size 51 _:=(h.block _ ω fun e=>by grind).trans hX;have e2:CC d pp gb n win lim cr a3:=(h.block pp ω fun e=>d3 (a2 _ e)).trans P;exact⟨I.a 0 _ rfl,I.a 1 _ rfl,I.a 2 _ rfl,I.a 3 _ rfl,af.a e2 0 _ rfl⟩
 have E:∀{G},R G->G.a.length<=4000:=fun h=>yr (H.gw h).net (H.gw h).lim;have b1:Hid (∀d l,GT B d v gb l->Calls prog 41 #[pT gb 0] d fun e g=>e=.returned (J l.a.length)/\g=d):=fun d l h=>vM h.2;have a8:Hid (∀d l (k:Nat) x,GT B d v gb l->R l->l.a[k]?=some x->Calls prog 42 #[pT gb 0,J k] d fun e g=>e=.returned (J 0)/\∃o,GT B g v gb o/\R o):=fun d l k x h A N=>by
  obtain⟨f,hf,rfl,j,a0,hd⟩:=H.par A N;refine(pP (H.gw A) h.2 k _ N hd a0 (wI hf).2).mono ?_;rintro e g ⟨rfl,z⟩;exact⟨rfl,_,h.a z,H.deliver k A⟩
 have b8:Hid (∀d l (k:Nat) x,GT B d v gb l->R l->l.a[k]?=some x->Calls prog 80 #[pT gb 0,J k] d fun e g=>e=.returned (J 0)/\∃o,GT B g v gb o/\R o):=fun d l k x h A N=>by
  refine(Gc h.2 (yr (E A) ω) k x N).mono ?_;rintro e g ⟨rfl,z⟩;exact⟨rfl,_,h.a z,H.drop k A⟩
 have c9:Hid (∀d l (k:Nat) x,GT B d v gb l->R l->l.a[k]?=some x->Calls prog 82 #[pT gb 0,J k] d fun e g=>e=.returned (J 0)/\∃o,GT B g v gb o/\R o):=fun d l k x h A N=>by
  refine(Gb h.2 (yr (E A) ω) k x N).mono ?_;rintro e g ⟨rfl,z⟩;exact⟨rfl,_,h.a z,H.copy k A⟩
 have c2:Hid (∀d l (k:Nat) x,GT B d v gb l->l.a[k]?=some x->Calls prog 96 #[pT gb 0,J k] d fun e g=>e=.returned (.tuple #[.string x.2,J 0])/\g=d):=fun d l k x h N=>Eu h.2 k x N;have c5:Hid (∀d l (k i m:Nat) x,GT B d v gb l->R l->l.a[k]?=some x->i<x.2.size->1<=m->m<=255->Calls prog 85 #[pT gb 0,J k,J i,J m] d fun e g=>e=.returned (J 0)/\cW v B g/\Calls prog 42 #[pT gb 0,J k] g fun e M=>e=.returned (J 0)/\∃o,GT B M v gb o/\R o):=fun d l k i m x h A N hi b0 Y=>by
  obtain⟨f,hf,rfl,j,a0,hd⟩:=H.par A N;have gw:=H.gw A;refine(x5 h.2 k _ N i m hi b0 Y (wI hf).2).mono ?_;rintro e g ⟨rfl,z⟩;have h2:=h.a z;have d7:=GH hi b0 Y;refine⟨rfl,h2.1,?_⟩;have e8:GW ({ l with a:=l.a.set k ((lF f).1,cP (lF f).2 i m) }:Grp):=⟨gw.b,gw.a,gw.num,gw.n,gw.snt,gw.lim,by show (l.a.set k _).length<=_;rw[Ko];exact gw.net⟩;have f0:(cP (lF f).2 i m).size<=1000000:=by
   have h1:=(wI hf).2;have h2:(cP (lF f).2 i m).size=(lF f).2.size:=by
    show (cP (lF f).2 i m).data.size=(lF f).2.data.size;simp[cP]
   omega
  refine(pP e8 h2.2 k ((lF f).1,cP (lF f).2 i m) ν hd a0 f0).mono ?_;rintro e M ⟨rfl,a4⟩;rw[E8 gw N hd a0 d7] at a4;exact⟨rfl,_,h2.a a4,H.drop k A⟩
 have e9:Hid (∀l x (k:Nat),R l->l.a[k]?=some x->1<=x.2.size/\x.2.size<=1000000):=fun l x k A L=>by
  obtain⟨f,hf,rfl, -⟩:=H.par A L;exact wI hf
 have r:Hid (∀d,(∃o,GT B d v gb o/\R o)->∃l,GT w d FG gb l/\R l):=fun d ⟨o,h,A⟩=>by
  refine⟨o,⟨(cW.d S).c (h.1.e fun x _ L=>.inl (a2 x L)),h.2.c fun x L=>?_⟩,A⟩;rcases L with L|L
  ·exact .inl (a2 x L)
  ·exact .inr ω
 have b5:=ah (E A);have d1:=fO a;have f1:=fO b;have e7:=fO c;clear a9 d3 gx A gc hX S c6 b3 P a7 a2 b9 H E;subst e5;obtain⟨e0,I,e2,e3,e4⟩:=C.out _ (cW.j _ _);go_enter Tryz.func57,Tryz.ntmps57
 go_wp2_with fail
 clear e0 I e2 e3 e4;generalize f6:w.heap.size=X at C ⊢;generalize w.alloc _=B at p C b1 a8 b8 c9 c2 c5 r ⊢;refine(b1.out B G p.out.1).mono ?_;rintro _ w2 ⟨rfl,rfl⟩;obtain⟨e0,I,e2,e3,e4⟩:=C.out _ (cW.j _ _);generalize hm:G.a.length=m at b5 ⊢;have HM:=ah hm;clear hm;by_cases f3:m=0
 ·subst f3;go_wp2_with fail
  go_ret;exact⟨rfl,r.out _ ⟨_,p.out⟩⟩
 ·have b0:¬m=0:=ω;have U:Hid (Calls prog 34 _ _ _):=d1 m w2 ha ω (by have:=b5.out;omega);go_wp2_with fail
  refine U.out.mono ?_;rintro _ M ⟨rfl,rfl⟩;clear U;have c7:bw a m<m:=cM a ω;obtain⟨x,L⟩:∃x,G.a[bw a m]?=some x:=⟨_,yh (by rw[HM.out];exact c7)⟩;generalize bw a m=k at c7 L ⊢;have HX:=ah L;clear L;by_cases h5:O=5
  ·subst h5;have D:Hid (Calls prog 42 _ _ _):=a8.out M G k x p.out.1 p.out.2 HX.out;go_wp2_with fail
   refine D.out.mono ?_;rintro _ W ⟨rfl,V⟩;have HR:Hid _:=r.out _ V;clear V D;go_wp2_with fail
   go_ret;exact⟨rfl,HR.out⟩
  by_cases h6:O=6
  ·subst h6;have D:Hid (Calls prog 80 _ _ _):=b8.out M G k x p.out.1 p.out.2 HX.out;go_wp2_with fail
   refine D.out.mono ?_;rintro _ W ⟨rfl,V⟩;have HR:Hid _:=r.out _ V;clear V D;go_wp2_with fail
   go_ret;exact⟨rfl,HR.out⟩
  by_cases h7:O=7
  ·subst h7;have D:Hid (Calls prog 82 _ _ _):=c9.out M G k x p.out.1 p.out.2 HX.out;go_wp2_with fail
   refine D.out.mono ?_;rintro _ W ⟨rfl,V⟩;have HR:Hid _:=r.out _ V;clear V D;go_wp2_with fail
   go_ret;exact⟨rfl,HR.out⟩
  by_cases h8:O=8
  ·subst h8;obtain⟨x1,x2⟩:=x;have a1:=ah (e9.out G _ k p.out.2 HX.out);have D:Hid (Calls prog 96 _ _ _):=c2.out M G k (x1,x2) p.out.1 HX.out;go_wp2_with fail
   refine D.out.mono ?_;rintro _ W ⟨rfl,rfl⟩;clear D;have f7:=ub a1.out.1;go_upto_region 17 with fail
   have a6:=cM b a1.out.1;have f2:bw c 255<255:=cM c ω;have c1:Hid (∀d,Calls prog 34 #[J b,J x2.size] d fun e g=>e=.returned (J (bw b x2.size))/\g=d):=fun d=>f1 x2.size d hb a1.out.1 a1.out.2;have b6:Hid (∀d,Calls prog 34 #[J c,J 255] d fun e g=>e=.returned (J (bw c 255))/\g=d):=fun d=>e7 255 d hc ω ω;generalize bw b x2.size=pi at a6 c1;generalize bw c 255=pm at f2 b6;have f4:IntKind.i64.wrap (1+(pm:Int))=1+(pm:Int):=by rw[IntKind.wrap_i64];omega
   have c4:Hid (∀d,d=W.drew->Calls prog 85 #[pT gb 0,J k,J pi,J (1+pm)] d fun e g=>e=.returned (J 0)/\cW v W g/\Calls prog 42 #[pT gb 0,J k] g fun e M=>e=.returned (J 0)/\∃o,GT W M v gb o/\R o):=fun d e=>by
    subst e;have h1:GT W W.drew v gb G:=⟨⟨rfl,rfl,rfl,yb _,fun _ _ _=>rfl⟩,p.out.1.2.a (Below.refl _ _).drew⟩;have:=c5.out W.drew G k pi (1+pm) (x1,x2) h1 p.out.2 HX.out a6 ω ω;rw[show ((1+pm:Nat):Int)=1+(pm:Int) by omega] at this;exact this
   have c0:Hid (∀d,cW v W d->d.cell? (aT X 2)=some (J b)/\d.cell? (aT X 3)=some (J c)/\d.cell? (aT pp 0)=some (pT gb 0)):=fun d h=>(C.out d h).2.2;clear a6;refine wp_region_held_drew (S:=fun d=>d.cell? (aT X 2)=some (J b)/\d.cell? (aT X 3)=some (J c)/\d.cell? (aT pp 0)=some (pT gb 0)) rfl (c0.out _ ⟨rfl,rfl,rfl,yb _,fun _ _ _=>rfl⟩) (fun u=>?_)
   (iterate 9 refine ψ ?_);refine wk 10 ?_;refine wk 11 ?_
   refine we 9 fun K hK=>?_;go_simp;refine(c1.out _).mono ?_;rintro e w2 ⟨rfl,rfl⟩;go_wp2_with fail
   refine hK.out _ _ u (fun u=>?_);clear hK K;try simp only[pU]
   refine we 12 fun K hK=>?_;go_simp;refine(b6.out _).mono ?_;rintro e w2 ⟨rfl,rfl⟩;go_wp2_with fail
   refine hK.out _ _ u (fun u=>?_);clear hK K;try simp only[pU]
   refine wk 13 ?_;refine we 14 fun K hK=>?_;go_simp;refine(c4.out _ rfl).mono ?_;rintro e w5 ⟨rfl,a5,T⟩;have Q:Hid (Calls prog 42 _ _ _):=T;have e6:=c0.out _ a5;have c3:Hid _:=e6;clear T a5 u e2 e3 e4 e0 I;go_wp2_with fail
   refine hK.out _ _ c3.out (fun u=>?_);clear hK K;try simp only[pU]
   refine wk 15 ?_;refine wpAnyH_done κ ?_ _;have e4:=c3.out.2.2;go_wp2_with fail
   refine Q.out.mono ?_;rintro _ w6 ⟨rfl,V⟩;have HR:Hid _:=r.out _ V;clear V Q;go_wp2_with fail
   go_ret;exact⟨rfl,HR.out⟩
  by_cases h9:O=9
  ·subst h9;have U:Hid (∀d,Calls prog 34 #[J a,J 60] d fun e g=>e=.returned (J (bw a 60))/\g=d):=fun d=>d1 60 d ha ω ω;have d2:bw a 60<60:=cM a ω;generalize bw a 60=q at U d2;go_wp2_with fail
   go_loopw [5,7,10] (fun nv ev i wr=>∃(j:Nat) (l:Grp) (m':Nat),j<=60/\i=J j/\nv=J m'/\l.a.length=m'/\ev=J 0/\GT M wr v gb l/\R l) (fun _ _ i _=>100 - (intOf i).toNat)
   case atStart=>exact⟨0,G,m,ω,rfl,rfl,HM.out,rfl,p.out⟩
   case round=>
    obtain⟨j,l,m',A,rfl,rfl,c8,rfl,z,b2⟩:=hrel;have d9:=ah c8;have Z:Hid (GT M wr v gb l/\R l):=⟨z,b2⟩;clear e0 I e2 e3 e4;obtain⟨e0,I,e2,e3,e4⟩:=C.out _ z.1;clear c8 z b2;go_wp2_with fail
    refine(U.out wr).mono ?_;rintro _ w5 ⟨rfl,rfl⟩;by_cases f5:j<=q
    ·have d4:(j:Int)<=(q:Int):=ω;by_cases Y:0<m'
     ·have d5:(0:Int)<(m':Int):=ω;obtain⟨y,hy⟩:∃y,l.a[0]?=some y:=⟨_,yh (by rw[d9.out];exact Y)⟩;have D:Hid (Calls prog 42 _ _ _):=a8.out w5 l 0 y Z.out.1 Z.out.2 hy;clear hy;go_wp2_with fail
      refine D.out.mono ?_;rintro _ w6 ⟨rfl,G6,F,b4⟩;have d8:Hid (GT M w6 v gb G6/\R G6):=⟨F,b4⟩;have b7:Hid (Calls prog 41 _ _ _):=b1.out w6 G6 F;clear D e0 I e2 e3 e4;obtain⟨e0,I,e2,e3,e4⟩:=C.out _ F.1;clear F b4;go_wp2_with fail
      refine b7.out.mono ?_;rintro _ w7 ⟨rfl,rfl⟩;clear b7;generalize d0:G6.a.length=m6;have d6:=ah d0;clear d0;go_wp2_with fail
      go_roundw
      case rel=>exact⟨j+1,G6,m6,ω,by go_num,rfl,d6.out,rfl,d8.out⟩
      case measure=>simp[intOf];omega
     ·have d5:¬(0:Int)<(m':Int):=ω;go_wp2_with fail
      go_ret;exact⟨rfl,r.out _ ⟨_,Z.out⟩⟩
    ·have d4:¬(j:Int)<=(q:Int):=ω;go_wp2_with fail
     go_ret;exact⟨rfl,r.out _ ⟨_,Z.out⟩⟩
  ·go_wp2_with fail
   go_ret;exact⟨rfl,r.out _ ⟨_,p.out⟩⟩
end
end Go.Proofs.YtoklolfaemhfnaaGreatDoor
namespace Go.Cr
section
open Go Go.Conc
open Go.Pm (Rely Guar Ev grow)
def KI(K0:Nat->Prop)(H0:Nat->Option Obj)(O K:Nat->Prop)(w:World):Prop:=∀b,K0 b->K b/\¬O b/\b<w.heap.size/\w.heap[b]?=H0 b
section
variable {K0:Nat->Prop}{H0:Nat->Option Obj}{O K:Nat->Prop}{A:World->Prop}{X:Event->Prop}{w wL w':World}{es:Array Event}{e0:Os × Array (Nat × ByteArray)}
def KI.rely(h:KI K0 H0 O K w)(c:Rely O K A w wL):KI K0 H0 O K wL:=fun b a=>⟨(h b a).1,(h b a).2.1,yg (h b a).2.2.1 c.size,(c.a b (.inr (h b a).1)).trans (h b a).2.2.2⟩
def KI.b(h:KI K0 H0 O K wL)(c:Guar O K X wL w' es):KI K0 H0 (grow O wL w') K w':=fun b a=>⟨(h b a).1,fun e=>e.elim (h b a).2.1 fun e=>by have:=(h b a).2.2.1;omega,yg (h b a).2.2.1 c.size,(c.a b (h b a).2.2.1 (h b a).2.1).trans (h b a).2.2.2⟩
def KI.a(h:KI K0 H0 O K w){a:Addr}(d:¬K0 a.block)(v:Value):KI K0 H0 O K (w.setCell a v):=fun b c=>⟨(h b c).1,(h b c).2.1,by have:=(h b c).2.2.1;simpa using this,((aside_setCell w a v).block b (fun e=>d (e▸c))).trans (h b c).2.2.2⟩
end
def AU{g k c j:Goroutine}{w i:World}{f e:Array Event}(h:GStep.spawn g c w f=GStep.spawn k j i e):g=k/\c=j/\w=i/\f=e:=by
 injection h with a b c d;exact⟨a,b,c,d⟩
def aC.d{P:Program}{Y:TypeId}{y:Value->World->Prop}{H:Nat}{X:List bE}{A:nX}{O K:Nat->Prop}{g:Goroutine}{w:World}(h:aC P Y y H X A O K g w){K0:Nat->Prop}{H0:Nat->Option Obj}{e0:Os × Array (Nat × ByteArray)} :
 KI K0 H0 O K w->(A≠.free->¬K0 H)->w.eo=e0->aC P Y (fun v w'=>y v w'/\w'.eo=e0/\∀b,K0 b->w'.heap[b]?=H0 b) H X A O K g w:=by
 induction h with
 | idle d f _ p =>
   intro l n j;refine .idle d f fun c t w' s a k=>?_;obtain⟨o,a0,a1,m,F⟩:=f c a;obtain⟨rfl,rfl,rfl⟩:=aF (m.symm.trans k);exact p c _ _ _ a k ((l.rely a).b F) n (F.d.trans (a.f.trans j))
 | fin d f =>
   intro l n j;refine .fin d fun c a=>?_;obtain⟨v,s,m,F,e3⟩:=f c a;exact⟨v,s,m,F,e3,a.f.trans j,fun b r=>(l.rely a b r).2.2.2⟩
 | enter E hW _ p =>
   intro l n j;exact .enter E hW (p (fun b r=>⟨(l b r).1,fun h=>(l b r).2.1 h.1,(l b r).2.2⟩) (fun _ r=>(l _ r).2.1 E) j)
 | kd d f _ p =>
   intro l n j;refine .kd d f fun c t w' s a k=>?_;obtain⟨o,m⟩:=f c a;obtain⟨rfl,rfl,rfl⟩:=aF (m.symm.trans k);exact p c _ _ _ a k (l.rely a) (fun _=>n ς) (a.f.trans j)
 | add d x f _ p =>
   intro l n j;refine .add d x f fun c t w' s v a C q k=>?_;obtain⟨o,m⟩:=f c a v C q;obtain⟨rfl,rfl,rfl⟩:=aF (m.symm.trans k);exact p c _ _ _ v a C q k ((l.rely a).a (n ς) _) (fun _=>n ς) (a.f.trans j)
 | en d f _ p =>
   intro l n j;refine .en d f fun c t w' s a k=>?_;obtain⟨o,m⟩:=f c a;obtain⟨rfl,rfl,rfl⟩:=aF (m.symm.trans k);exact p c _ _ _ a k (l.rely a) (fun _=>n ς) (a.f.trans j)
 | go Q Bs R d x hB hR M f hc _ p =>
   intro l n j;refine .go Q Bs R d x hB hR M f hc fun c t T w' s a k=>?_;obtain⟨o,G,m⟩:=f c a;obtain⟨rfl,rfl,rfl,rfl⟩:=AU (m.symm.trans k);exact p c _ _ _ _ a k (fun b r=>⟨.inl (l.rely a b r).1,fun h=>(l.rely a b r).2.1 h.1,(l.rely a b r).2.2⟩) (fun _=>n ς) (a.f.trans j)
 | wd d f _ p =>
   intro l n j;refine .wd d f fun c t w' s a k=>?_;obtain⟨o,m⟩:=f c a;obtain⟨rfl,rfl,rfl⟩:=aF (m.symm.trans k);exact p c _ _ _ a k (l.rely a) (fun _=>n ς) (a.f.trans j)
 | ld d f _ _ S L =>
   intro l n j;refine .ld d f (fun c t w' s a q k=>?_) fun c t w' s v a h1 Z q k=>?_
   ·obtain⟨o,m⟩:=f c a 0 (oI _) q;obtain⟨rfl,rfl,rfl⟩:=aF (m.symm.trans k);exact S c _ _ _ a q k (l.rely a) (fun _=>n ς) (a.f.trans j)
   ·obtain⟨o,m⟩:=f c a v Z q;obtain⟨rfl,rfl,rfl⟩:=aF (m.symm.trans k);exact L c _ _ _ v a h1 Z q k (l.rely a) (fun _=>n ς) (a.f.trans j)
 | cas d z u _ _ U N =>
   intro l n j;refine .cas d z u (fun c t w' s a q k=>?_) fun c t w' s v a C q k=>?_
   ·obtain⟨o,m⟩:=z c a q;obtain⟨rfl,rfl,rfl⟩:=aF (m.symm.trans k);exact U c _ _ _ a q k ((l.rely a).a (n ς) _) (fun _=>n ς) (a.f.trans j)
   ·obtain⟨o,m⟩:=u c a v C q;obtain⟨rfl,rfl,rfl⟩:=aF (m.symm.trans k);exact N c _ _ _ v a C q k (l.rely a) (fun _=>n ς) (a.f.trans j)
 | sem d B D f _ p =>
   intro l n j;refine .sem d B D f fun c t w' s a q k=>?_;obtain⟨o,m⟩:=f c a q;obtain⟨rfl,rfl,rfl⟩:=aF (m.symm.trans k);exact p c _ _ _ a q k ((l.rely a).a (n ς) _) (fun _=>n ς) (a.f.trans j)
 | l4 d f _ p =>
   intro l n j;refine .l4 d f fun c t w' s a q k=>?_;obtain⟨o,m⟩:=f c a q;obtain⟨rfl,rfl,rfl⟩:=aF (m.symm.trans k);exact p c _ _ _ a q k (l.rely a) (fun _=>n ς) (a.f.trans j)
 | ke d f _ p =>
   intro l n j;refine .ke d f fun c t w' s a k=>?_;obtain⟨o,m⟩:=f c a;obtain⟨rfl,rfl,rfl⟩:=aF (m.symm.trans k);exact p c _ _ _ a k (l.rely a) (fun _=>n ς) (a.f.trans j)
 | aq d f _ p =>
   intro l n j;refine .aq d f fun c t w' s Os a hq W I k=>?_;obtain⟨o,m⟩:=f c a;obtain⟨rfl,rfl,rfl⟩:=aF (m.symm.trans k);exact p c _ _ _ Os a hq W I k (fun b r=>⟨(l.rely a b r).1,fun h=>h.elim (l.rely a b r).2.1 fun ⟨i,hi,ho⟩=>(W i hi b ho).2.1 (l.rely a b r).1,(l.rely a b r).2.2⟩) (fun e=>absurd rfl e) (a.f.trans j)
