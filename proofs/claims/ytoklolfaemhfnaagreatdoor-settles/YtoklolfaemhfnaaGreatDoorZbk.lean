import Derived.Test.YtoklolfaemhfnaaGreatDoorZbj
set_option maxRecDepth 100000
set_option maxHeartbeats 0
set_option linter.defProp false
open Go.Proofs.Tryz
namespace Go.Proofs.Y
section
open Go.RowKit
open Go.Cr Go.Conc
open Go.Pm (Perm Loose Among Sup Ext Rely Ev loose_live)
open Md (PS Grp Book GW carried)
variable {Wg bx:Nat}
section
structure I9(c:gN)(P0 G0 gb lb pb base pp:Nat)(L:List (Nat×Obj))(bl:Nat->Nat)(Fp:Nat->ϑ)(G:Grp)(cr:Book)(vs:ϡ)(π:Perm)(w0 w wa:Δ)(O:ϑ):Prop where
 e:Gh π w wa O
 g:lK L O π w.heap.size wa
 v:π.f pp=P0
 u:π.f gb=G0
 p:7<=pp
 q:Pm.Shut fam w0
 size:w0.heap.size=base
 i:∀k,k<base->w.heap[k]?=w0.heap[k]?
 r:base<=w
 os:w.os=w0.os
 t:CC w0 pp gb c.n c.d c.b cr
 d:¬Wh gb pb G.n Fp (λ_=>False) pp
 a:GQ w0 gb pb bl Fp (λ_=>False) {G with a:=[]} (sN)
 b:CF w base lb G.n vs (eC G.a)
 o:GW G
 s:G.n=c.n
 y:∀x∈G.a,x.2.size<=1000000
section
variable {c:gN}{P0 G0 gb lb pb bs pp:Nat}{L:List (Nat×Obj)}{bl:Nat->Nat}{Fp:Nat->ϑ}{G:Grp}{cr:Book}{vs:ϡ}{π:Perm}{w0 w wa wa':Δ}{O K:ϑ}
def I9.h(a:I9 c P0 G0 gb lb pb bs pp L bl Fp G cr vs π w0 w wa O):bs<=lb/\lb<w/\7<=bs:=by refine⟨a.b.f,a.b.a.f,?_⟩;have e:=a.a.g.1;have d:=a.a.net.a.f;have b:=a.size;omega
def I9.j(a:I9 c P0 G0 gb lb pb bs pp L bl Fp G cr vs π w0 w wa O){i:Nat}(d:i<G.n):∃v,vs[i]?=some v/\∀x,Fq (Fp i) v x->7<=x/\x<w.heap.size/\x≠gb/\x≠pb/\x≠lb/\(x<bs->Fp i x)/\(Fp i x->x<bs):=by
 obtain⟨v,j⟩:∃v,vs[i]?=some v:=⟨_,yl (by rw[a.b.size];exact d)⟩;obtain⟨r,t,s⟩:=a.h;have k:=a.r;have q:=a.a.net.a.f;have l:=a.a.d.f;have o:=a.size;have f:∀x,Fp i x->x<bs:=λx b=>by have:=a.a.s d b;omega
 refine⟨v,j,λx b=>?_⟩;rcases b with b|b;have p:=f x b;exact⟨((a.a.q i d).d x b).1,ω,λe=>(a.a.a i d).1 (e▸b),λe=>(a.a.a i d).2 (e▸b),ω,λ_=>b,f x⟩;have g:=a.b.b i v d j;obtain⟨p,m⟩:=g.lt x b;exact⟨ω,m,ω,ω,λe=>lD g a.b.a (by rw[b,e]),λh=>ω,f x⟩
def HU(Fp:Nat->ϑ)(vs:ϡ)(π:Perm)(i:Nat):ϑ:=λx=>∃r,Fq (Fp i) (vs.getD i undef) r/\π.f r=x
def I9.start(a:I9 c P0 G0 gb lb pb bs pp L bl Fp G cr vs π w0 w wa O)(C:qp O K wa):Go.Cr.qY O K (π.f gb) (π.f pb) (π.f lb) G.n G.n G.n (λi=>π.f (bl i)) (λi=>(vs.getD i undef).pm π) (HU Fp vs π) wa:=by
 obtain⟨V,T,U⟩:=a.h;have S:=a.a.net.a.f;have I:=a.a.d.f;have N:=a.size;have H:=a.r;have B:af w gb 97 _:=(a.i gb ω).trans a.a.net.a;have D:af w pb 102 _:=(a.i pb ω).trans a.a.d;have o:∀r,7<=r->r<w.heap.size->O (π.f r):=λr t x=>a.e.c r t x;have p:∀i v,vs[i]?=some v->vs.getD i undef=v:=λi v h=>by rw[ya,h];rfl
 refine⟨o gb a.a.g.1 ω,o pb a.a.g.2 ω,o lb ω T,a.o.b,⟨λe=>?_,λe=>?_⟩,?_,λi m=>?_,λi m=>?_,λi m b E=>?_,λi j m z y b E A=>?_,C.c,C.a,C.ok⟩;have:=π.Nd e;omega;have:=π.Nd e;omega;have:=a.e.b a.a.g.1 (B.a 0 _ rfl);simpa[Addr.pm]using this.1;have:=a.e.b a.a.g.2 (D.a i (.pointer (some ⟨bl i,0,none⟩)) (by simp[m]));simpa[Addr.pm]using this.1;obtain⟨v,s,-⟩:=a.j m;rw[p i v s];exact(a.e.b ω (a.b.a.a i v s)).1;obtain⟨v,s,g⟩:=a.j m;obtain⟨r,k,rfl⟩:=E;rw[p i v s]at k;obtain⟨t,x,P,M,R,-⟩:=g r k;exact⟨o r t x,λe=>P (π.Nd e),λe=>M (π.Nd e),λe=>R (π.Nd e)⟩;obtain⟨v,s,g⟩:=a.j m;obtain⟨u,F,q⟩:=a.j z;obtain⟨r,k,rfl⟩:=E;obtain⟨Q,d,e⟩:=A;obtain rfl:=π.Nd e;rw[p i v s]at k;rw[p j u F]at d;have t:=g _ k;have x:=q _ d;by_cases l:Q<bs;exact y (a.a.dis i j _ m z (t.2.2.2.2.2.1 l) (x.2.2.2.2.2.1 l));rcases k with k|k;exact l (t.2.2.2.2.2.2 k);rcases d with d|d;exact l (x.2.2.2.2.2.2 d);exact y (a.b.dis i j v u _ m z s F k d)
end
variable {c:gN}{P0 G0 gb lb pb bs pp:Nat}{L:List (Nat×Obj)}{bl:Nat->Nat}{Fp:Nat->ϑ}{G:Grp}{cr:Book}{vs:ϡ}{π:Perm}{w0 w wa wa':Δ}{O K:ϑ}
def Lr(bl:Nat->Nat)(Fp:Nat->ϑ)(G:Grp)(vs:ϡ)(π:Perm)(k:Nat):bE:=KU (π.f (bl k)) ((G.b k).Nc (Grp.MT G.a k)) (HU Fp vs π k)
def I9.l(a:I9 c P0 G0 gb lb pb bs pp L bl Fp G cr vs π w0 w wa O)(W:qp O K wa)(S:∀b,b<2->K b)(C:wa.heap.size<=Wg){k:Nat}(m:k<G.n):zE K (π.f lb) G.n G.n (λi=>π.f (bl i)) (λi=>(vs.getD i undef).pm π) (HU Fp vs π) (Lr bl Fp G vs π) wa Wg bx k:=by
 obtain⟨v,D,q⟩:=a.j m;have u:vs.getD k undef=v:=by rw[ya,D];rfl
 have Q:=a.start W;have V:=a.size;have l:∀x,x<w0.heap.size->w.heap[x]?=w0.heap[x]?:=λx o=>a.i x ω;have h:=a.a.q k m;have p:w0.heap.size<=w:=by have:=a.r;omega
 have H:=h.c (λx o=>l x (h.j o)) (λx o=>l x (yg o h.f)) p;have hp:=(a.a.c k m).a (λx _ o=>l x o) p;have d:=a.b.b k v m D;rw[(qk G.a k).1,(qk G.a k).2]at d;have F:(Grp.MT G.a k).length<=40000:=by have z:=Md.rG G.a k;have B:=a.o.net;have U:=a.o.lim;omega
 have I:∀s∈Grp.MT G.a k,s.length<=140737488351232:=λs Y=>by obtain⟨x,o,rfl⟩:=yW.1 Y;have z:=a.y x (yM.1 o).1;have B:x.2.data.toList.length=x.2.size:=rfl;omega
 refine CR m C (λb t=>Q.c b (Q.f k m b t).1) (λO' w1 w2 z B U h4=>KU.a O' w1 w2 z B U h4) λR A y hR j M E=>?_;have:=GN (A:=A) a.e.a hp H (a.o.a k m) (a.o.snt k m) F I d a.h.2.2 (λg P e fz N Z=>a.b.flat k v g P e fz m D N Z) (λg N T=>by have z:=(q g (.inl T)).2.2.2.2.2.2 T;have B:=(d.lt g N).1;omega) (λb t=>hR b (S b t)) (leafLaw.a wa y (λb t=>j b (.inr (S b t))) a.e.e) (λr X=>j _ (.inl ⟨r,by rw[u];exact X,rfl⟩)) M E
 unfold Lr HU;simp only[u];exact this
def I9.m(a:I9 c P0 G0 gb lb pb bs pp L bl Fp G cr vs π w0 w wa O)(ho:qp O K wa)(hK:∀b,b<2->K b){T Kn:ϑ}{F:Nat->ϑ}(j:At O K (π.f lb) G.n G.n (HU Fp vs π) wa Wg bx G.n T Kn wa')(hq:∀i,i<G.n->Lr bl Fp G vs π i (F i) wa')(R:∀i,i<G.n->∀b,F i b->¬T b/\¬Kn b/\b<wa'.heap.size)(U:∀i k,i<G.n->k<G.n->i≠k->∀b,F i b->¬F k b):∃O':ϑ,(∀b,O' b->T b\/∃i,i<G.n/\F i b)/\qp O' (λb=>b<2) wa'/\Mw c P0 G0 (π.f pb) (λi=>π.f (bl i)) (λG' Z=>G'=G.MU/\Z=cr) L O' wa':=by
 obtain⟨l1,l2,l3⟩:=a.h;have a6:=a.size;have a7:=a.r;have hS:=a.start ho;have S:=leafLaw.a wa wa' (λb B=>j.f b (hK b B)) a.e.e;have a4:Loose fam π w0 wa:=⟨λr o hl M=>a.e.a.e r o hl ((a.i r (by have:=(yk.1 M).1;omega)).trans M),a.e.a.d,by show 7<=w0.heap.size;omega,a.e.a.a,by rw[a.e.a.os];exact a.os,a.e.a.g,a.e.a.b⟩;have nb:∀r,(∀i,i<G.n->¬Fq (Fp i) (vs.getD i undef) r)->∀i,i<G.n->¬HU Fp vs π i (π.f r):=λr M i p⟨r',d,l⟩=>M i p (π.Nd l▸d);have N:∀r,7<=r->r<w0.heap.size->O (π.f r):=λr d l=>a.e.c r d ω;have V:∀r,r<w0.heap.size->π.f r≠π.f lb:=λr M e=>by have:=π.Nd e;omega
 have Q:=λr d l s=>j.h _ (N r d l) (nb r s) (V r l);have a5:∀i,i<G.n->¬Fq (Fp i) (vs.getD i undef) gb/\¬Fq (Fp i) (vs.getD i undef) pb:=λi p=>by
  obtain⟨v,H,m⟩:=a.j p;have y:vs.getD i undef=v:=by rw[ya,H];rfl
  rw[y];exact⟨λh=>(m _ h).2.2.1 rfl,λh=>(m _ h).2.2.2.1 rfl⟩
 obtain⟨w',D,a0,z,X,a1,a8,u,a3,m,g',W⟩:=E5 a4 a.q S a.a rfl a5 j.size (λr d l s=>j.d _ (N r d l) (nb r s)) hq U λi p r d l s h4=>(R i p _ h4).1 (Q r d l s);have C:=af.f a.t;have P:∀i,i<G.n->¬Fq (Fp i) (vs.getD i undef) pp:=λi p h=>by
  obtain⟨v,H,A⟩:=a.j p;have y:vs.getD i undef=v:=by rw[ya,H];rfl
  rw[y]at h;exact a.d (.inr (.inr (.inr ⟨i,p,(A pp h).2.2.2.2.2.1 ω⟩)))
 have a2:=a.a.net.a.f;have E:=a.a.d.f;have q:∀x∈L,T x.1/\x.1<wa.heap.size/\wa'.heap[x.1]?=some x.2/\∀r,7<=r->r<w.heap.size->π.f r≠x.1:=λx t=>by
  obtain⟨z1,z2,z3⟩:=a.g x t;have I:∀i,i<G.n->¬HU Fp vs π i x.1:=λi p⟨r,d,l⟩=>by
   obtain⟨v,H,A⟩:=a.j p;have y:vs.getD i undef=v:=by rw[ya,H];rfl
   rw[y]at d;exact z3 r (A r d).1 (A r d).2.1 l
  exact⟨j.h _ z1 I λe=>z3 lb ω l2 e.symm,(yk.1 z2).1,(j.d _ z1 I).trans z2,z3⟩
 refine⟨λb=>(∃r,7<=r/\r<w'.heap.size/\D.f r=b)\/∃x∈L,x.1=b,λb B=>?_,⟨λb B=>?_,λb B=>?_,λb B Y=>?_⟩,⟨D,w',pp,gb,pb,bl,a0,λ_=>False,G.MU,cr,_,⟨z,X,a1,S,λr d l=>.inl ⟨r,d,l,rfl⟩⟩,λx t=>?_,(u pp C).trans a.v,(u gb a2).trans a.u,u pb E,λi p=>?_,a.p,(a3 pp a.p C P).trans a.t,λt=>?_,g',a.s,rfl,rfl⟩⟩
 .rcases B with ⟨r,d,l,rfl⟩|⟨x,t,rfl⟩;rcases m r d l with ⟨s,h4⟩|s;rw[u r s];exact .inl (Q r d s h4);exact .inr s;exact .inl (q x t).1
 rcases B with ⟨r,d,l,rfl⟩|⟨x,t,rfl⟩;exact z.i.k l;exact yg (q x t).2.1 j.size;have:=z.a;have a9:7<=wa'.heap.size:=this;omega;rcases B with ⟨r,d,l,rfl⟩|⟨x,t,rfl⟩;have:7<=D.f r:=loose_live z d;omega;exact ho.ok _ (a.g x t).1 (hK _ Y);refine⟨.inr ⟨x,t,rfl⟩,(q x t).2.2.1,λr d l e=>?_⟩;rcases m r d l with ⟨s,-⟩|⟨i,p,s⟩;rw[u r s]at e;exact(q x t).2.2.2 r d ω e;rw[e]at s;exact(R i p _ s).1 (q x t).1;exact u _ (a.a.c i p).f;rcases t with h|h|h|⟨i,p,h⟩;exact a.d (.inl h);exact a.d (.inr (.inl h));exact h;rcases W i pp p h with d|d;exact P i p d;omega
end
variable {c:gN}{P0 G0:Nat}{L:List (Nat×Obj)}{O K:ϑ}{wa:Δ}{J:zV}{Post:Θ->Ξ}
def KS(c:gN)(P0 G0:Nat)(J:zV)(L:List (Nat×Obj))(Post:Θ->Ξ)(cf:Frame)(rest:List Frame):(ϑ)->Ϛ->Ξ:=λap g wg=>
 ∃(c':Frame)(gb lb pb bs pp:Nat)(bl:Nat->Nat)(Fp:Nat->ϑ)(G:Grp)(cr:Book)(vs:ϡ)(π:Perm)(w0 w:Δ),J G cr/\g=Conc.G (Frame.enter prog 60 #[.pointer (some ⟨π.f gb,0,none⟩),.slice (some ⟨π.f lb,0,none⟩) c.n c.n] .normal) (c'::cf::rest)/\I9 c P0 G0 gb lb pb bs pp L bl Fp G cr vs π w0 w wg ap/\
   ∀Wg O' wa',qp O' (λb=>b<2) wa'->Mw c P0 G0 (π.f pb) (λi=>π.f (bl i)) (λG' cr'=>G'=G.MU/\cr'=cr) L O' wa'->aC prog 148 Post Wg [] .free O' (λb=>b<2) (Conc.G (c'.finish ϳ) (cf::rest)) wa'
def wO(hn:1<=c.n/\c.n<=6)(hK:∀b,b<2->K b)(hJ:∀G M,J G M->GW G/\G.n=c.n/\∀x∈G.a,x.2.size<=1000000/\∃j:Nat,j<G.n/\x.1=(j:Int))(h:Mq c P0 G0 J L O wa)(ho:qp O K wa){r:Nat}{cf:Frame}{o:List Frame}(b6:∀Wg Q H(m:Nat),qp Q (λb=>b<2) H->Mq c P0 G0 (λG' M=>∃F,J F M/\F.a.length=m/\G'=F.round) L Q H->aC prog 148 Post Wg [] .free Q (λb=>b<2) (G (cf.finish (ϲ m)) o) H):aC prog 148 Post r [] .free O K (G (Frame.enter prog 28 #[pT G0 0] .normal) (cf::o)) wa:=by
 have a1:Pm.Way prog true K (Al 148 r .free) (XS r .free) (KS c P0 G0 J L Post cf o) O (G (Frame.enter prog 28 #[pT G0 0] .normal) (cf::o)) wa:=by
  obtain⟨U,w,X,l,FG,G,M,h1,h2,h3,rfl,h5,h6,h7,h8,h9⟩:=h;obtain⟨gw,E,W⟩:=hJ G M h9;have R:=h8.f;have a9:=af.f h6;rw[enter_at _ func28 rfl];simp;walk_nrm;repeat refine wN ?_
  refine wR ?_;refine wV (ϲ 0) ?_;walk_nrm;repeat refine wN ?_
  refine wR ?_;iterate 2 (refine wV (.pointer (some ⟨U.f l,0,none⟩)) ?_;walk_nrm)
  refine wV (.pointer (some ⟨U.f l,1,none⟩)) ?_;walk_nrm;refine dS rfl rfl θ rfl rfl κ rfl ?_;walk_nrm;refine fE hK h1 h2 rfl rfl (args:=#[pT l 1]) (λv hv=>?_) (by simp[Addr.pm]) (R:=λe y=>∃T Z Y nv,ϱ e nv/\y.heap.size=w/\(∀k,k≠l->y.heap[k]?=w.heap[k]?)/\Tq y FG l T Z Y G nv) (λτ _=>?_) (λe y h=>?_) λv D a0 d2 O1 c2 a7 d0 _ s _=>?_;simp at hv;subst hv;intro σ a6;have:=a6.1 l R.1 R.2;simp[Addr.pm,this];obtain⟨T,Z,Y,nv,hc⟩:=Cp (h8.d (w':=w.tp τ) rfl);refine hc.m ?_;rintro y⟨ha,hb,hc⟩;exact⟨T,Z,Y,nv,rfl,ha,hb,hc⟩;obtain⟨T,Z,Y,nv,h,-⟩:=h;exact⟨_,h⟩;obtain⟨T,Z,Y,nv,e,V,b3,N⟩:=c2;injection e with e;subst e;obtain⟨ao,vc,hv⟩:=bG N.a;rw[Frame.finish_at,hv];simp;generalize hm:G.a.length=m at hv;generalize c7:ao.map _=a3;walk_nrm;have A:=s l R.2;have S:a0.f X=P0:=(s X a9).trans h3;have b9:X≠l:=λe=>h7 (N.e _ (.inl e));have b1:CC D X l c.n c.d c.b M:=(b3 X b9).trans h6;refine wV (.slice a3 m vc) ?_;walk_nrm;repeat refine wN ?_
  refine wR ?_;refine wV (.pointer (some ⟨U.f l,0,none⟩)) ?_;walk_nrm;refine wV (.slice a3 m vc) ?_;iterate 3 (walk_nrm;refine wV (.pointer (some ⟨U.f l,0,none⟩)) ?_)
  walk_nrm;refine ag (v:=.slice (some ⟨a0.f T,0,none⟩) c.n c.n) rfl rfl θ (λB d=>?_) ?_
  .have c5:=(a7.rely hK d).b N.f.g.1 (N.f.net.a.z 0);simp only[Pm.jA,yp,Addr.pm,A,E]at c5;obtain⟨c5,sG⟩:=c5;exact⟨by go_simp,by simp[go_sem, *];exact .inl sG⟩
  walk_nrm;refine wV (ϲ c.n) ?_;walk_nrm;refine dS rfl rfl θ rfl (fn:=f61) rfl κ rfl ?_;walk_nrm;have c0:v.pm a0=.slice a3 m vc:=by rw[hv,<-c7];simp
  refine fE hK a7 d0 (f:=61) rfl rfl (args:=#[v,ϲ c.n]) (λu hu=>?_) (by simp[c0]) (R:=λe y=>ϱ e (sT D c.n c.n)/\(∀k,k<D.heap.size->y.heap[k]?=D.heap[k]?)/\D.heap.size<=y/\y.os=D.os/\∃vs,CF y D D G.n vs (eC G.a)) (λτ _=>?_) (λe y h=>⟨_,h.1⟩) λv2 w2 a8 d3 O2 c3 c8 c9 _ t _=>?_
  .simp at hu;rcases hu with rfl|rfl;intro σ a6;rcases N.a.2 with ⟨h0,-⟩|⟨g,d4,d5,h0,-⟩;rw[h0];simp;have:σ.f g=g:=a6.1 g (N.b g (by rw[h0];rfl)).2.1 (N.a.lt g (by rw[h0];rfl)).2;rw[h0];simp[Addr.pm,this];exact eM ς
  have b5:=E7 (N.d (w':=D.tp τ) (λ_ _=>rfl) Ϫ) gw.b (by have h1:=gw.net;have h2:=gw.lim;omega) λx hx=>(W x hx).2;rw[E]at b5;exact b5.mono λe y h=>by rw[E];exact h
  obtain⟨e,b8,b4,b2,vs,b7⟩:=c3;injection e with e;subst e;rw[Frame.finish_at];simp;walk_nrm;refine dS rfl rfl θ rfl (fn:=f60) rfl κ rfl ?_;walk_nrm;have p:a8.f l=U.f l:=(t l (by rw[V];exact R.2)).trans A;refine .stop λB d=>⟨_,l,D,T,D,X,Z,Y,G,M,vs,a8,D,w2,h9,by rw[p],⟨c8.rely hK d,c9.rely d,(t X (by rw[V];exact a9)).trans S,p,h5,a7.d,rfl,b8,b4,b2,b1,λhx=>h7 (N.e _ hx),N.f,b7,gw,E,λx hx=>(W x hx).1⟩,λWg Q H q P=>?_⟩;have a2:∀b,b<2->(λb=>b<2) b:=λb hb=>hb;refine aC.c (lL (Stop:=λz g i=>g=Conc.G (cf.finish (ϲ m)) o/\Mq c P0 (U.f l) (λG' C=>∃F,(F=G/\C=M)/\G'=F.round) L z i) ?_ q) λz g i hS=>?_
  .rw[Frame.finish_at];walk_nrm;repeat refine wN ?_
   refine wR ?_;iterate 3 (refine wV (.pointer (some ⟨U.f l,0,none⟩)) ?_;walk_nrm)
   refine ag (v:=.slice (some ⟨a8.f T,0,none⟩) c.n c.n) rfl rfl θ (λB d=>?_) ?_
   .obtain⟨sG,sB,c5,-⟩:=(P.rely a2 d).a;exact⟨by go_simp,by simp[go_sem, *];exact .inl sG⟩
   walk_nrm;refine wV (ϲ c.n) ?_;walk_nrm;refine wV (ϲ ((0:Nat):Int)) ?_;walk_nrm;repeat refine wN ?_
   refine au rfl (λ_=>stepG_loop) ?_;exact wM (J:=λF C=>F=G/\C=M) (m:=m) (c3:=vc) (a3:=a3) hn.2 a2 (λF C h=>by rw[h.1];exact⟨gw,E⟩) (λO4 w4 h4=>.stop λw5 h5=>⟨rfl,h4.rely a2 h5⟩) c.n 0 ω Q H _ _ _ _ _ _ _ _ _ _ _ _ _ _ _ _ _ _ _ _ _ _ _ _ _ _ _ _ _ (P.d λG' C h=>⟨G,⟨rfl,h.2⟩,h.1⟩)
  obtain⟨⟨rfl,hM⟩,a4⟩:=hS i (.c _ _ _ _);refine b6 Wg z i m a4 (hM.b λG' C h=>?_);obtain⟨F,⟨rfl,rfl⟩,rfl⟩:=h;exact⟨F,h9,hm,rfl⟩
 refine aC.c (lL a1 ho) λz g i hS=>?_;obtain⟨⟨c',l,lb,T,bs,X,Z,Y,G,M,vs,U,w0,w,hj,rfl,a,a5⟩,I⟩:=hS i (.c _ _ _ _);rw[<-a.s];refine ss (a.start I) (QQ:=Lr Z Y G vs U) (λWg bx c6 d6 k hk=>a.l I hK c6 hk) (λk hk Q w B h1 h2 h3 h4=>KU.a Q w B h1 h2 h3 h4) ?_;intro Wg bx On Kn Os y j hq d1 c4;obtain⟨Q,c1,q,P⟩:=a.m I hK j hq d1 c4;exact(a5 Wg Q y q P).more c1 λb hb=>j.s b (hK b hb)
end
section
open Go.RowKit
open Go.Cr Go.Conc
open Go.Pm (Rely Perm Sup Ext Ev)
open Md (PS Grp Book GW)
variable {v:Θ}{cf:Frame}
section
def mA{M:Type}{l:M}{L L':List M}(h:l∈L)(e:L=L'):l∈L':=e▸h
def Fc(bx P0 n:Nat)(b:Int):Nat->Θ
 |0=>pT bx 2
 |1=>ϲ b
 |2=>pT P0 0
 |3=>pT P0 0
 |4=>pT P0 1
 |5=>pT P0 1
 |_=>ϲ n
def Fb(bx P0 G0 q:Nat)(t:ϝ):Nat->Θ
 |0=>pT P0 0
 |1=>pT P0 0
 |2=>pT P0 0
 |3=>pT G0 0
 |4=>ϲ q
 |5=>pT bx 4
 |6=>.string t
 |_=>.string (xU t 16)
def ax{P:ϛ}{main:Bool}{K:ϑ}{A:Ξ}{X:Ϥ}{Stop:(ϑ)->Ϛ->Ξ}{O:ϑ}{w:Δ}{b:Frame}{a:Act}{todo:List Item}{c:Frame}{cs:List Frame}{fn:Func}{t:Nat}(hn:b.kind=.normal)(hd:a.defers=[])(hf:P.funcs[b.fn]?=some fn)(hr:fn.results=#[.tmp t])(hv:a.tmps.getD t undef=v)(h:Pm.Way P main K A X Stop O (G (c.finish v) cs) w):Pm.Way P main K A X Stop O (G {b.at a todo with mode:=.returning} (c::cs)) w:=
 au rfl (λw=>by rw[stepG_leave hn hd hf ((results_tmp hr _ P w).trans (by rw[hv])) (events_results_tmp hr _ _)]) h
abbrev aP(kd a b c:Int)(t:ϝ):ϡ:=#[ϲ kd,ϲ a,ϲ b,ϲ c,.string t]
def AC(bx P0 n:Nat)(a:Int):Nat->Θ
 |0=>pT bx 1
 |1=>ϲ a
 |2=>pT P0 0
 |3=>pT P0 0
 |4=>pT P0 1
 |5=>pT P0 1
 |_=>ϲ n
def Mq.cell2{c:gN}{P0 G0:Nat}{J:zV}{L:List (Nat×Obj)}{O:ϑ}{wa:Δ}(h:Mq c P0 G0 J L O wa):O P0/\ε wa P0 0 (pT G0 0)/\ε wa P0 1 (ϲ c.n):=by obtain⟨G1,cr,-,h⟩:=h.e;exact⟨h.a.1,h.a.2.1,h.a.2.2.1⟩
def Mq.c{c:gN}{P0 G0:Nat}{J:zV}{L:List (Nat×Obj)}{O:ϑ}{wa:Δ}(h:Mq c P0 G0 J L O wa)(j:Nat):wa.frozen? (aT P0 j)=false:=by obtain⟨U,w,pp,gb,FG,G',cr',h1,h2,rfl,rfl,h5,h6,h7⟩:=h;have hwa:=h1.a.e pp _ h5 h6;simp only[Obj.pm]at hwa;exact frozen_of_row wa (U.f pp) j _ _ hwa
def Mq.j{c:gN}{P0 G0:Nat}{L:List (Nat×Obj)}{O:ϑ}{wa:Δ}{G1:Grp}{cr:Book}(h:Mq c P0 G0 (λG' cr'=>G'=G1/\cr'=cr) L O wa){q:Nat}(hq:q<6):Mq c P0 G0 (λG' cr'=>G'=G1/\cr'=cr.put q) L O (wa.setCell ⟨P0,4+q,none⟩ (.bool true)):=by
 obtain⟨U,w,pp,gb,FG,G',cr',h1,h2,rfl,rfl,h5,h6,h7,h8,rfl,rfl⟩:=h;have hb:∀k,k≠pp->(w.setCell ⟨pp,4+q,none⟩ (.bool true)).heap[k]?=w.heap[k]?:=λk hk=>Below.heap_setCell _ _ _ _ hk;have hba:∀k,k≠U.f pp->(wa.setCell ⟨U.f pp,4+q,none⟩ (.bool true)).heap[k]?=wa.heap[k]?:=λk hk=>Below.heap_setCell _ _ _ _ hk;have hA:=aside_setCell w ⟨pp,4+q,none⟩ (.bool true);have hAa:=aside_setCell wa ⟨U.f pp,4+q,none⟩ (.bool true);have hinj:∀r,U.f r=U.f pp->r=pp:=λr e=>by rw[<-U.a r,<-U.a pp,e]
 have hset:=af.e h6 (4+q) (.bool true);have hpl:CC (w.setCell ⟨pp,4+q,none⟩ (.bool true)) pp gb c.n c.d c.b (Md.Book.put cr' q):=by
  unfold CC;refine Eq.mp (congrArg _ ?_) hset;match q,hq with
  |0,_=>rfl
  |1,_=>rfl
  |2,_=>rfl
  |3,_=>rfl
  |4,_=>rfl
  |5,_=>rfl
 have hwa:=h1.a.e pp _ h5 h6;simp only[Obj.pm]at hwa;have hwa2:=heap_setCell_same wa (U.f pp) (4+q) _ _ (.bool true) hwa;refine⟨U,w.setCell ⟨pp,4+q,none⟩ (.bool true),pp,gb,FG,G',Md.Book.put cr' q,⟨⟨λr o hl hr=>?_,h1.a.d,hA.size▸h1.a.c,hAa.size▸h1.a.a,by rw[hAa.os,hA.os];exact h1.a.os,h1.a.g,h1.a.b⟩,⟨λC hσ r o hl hr=>?_⟩,bR h1.f λx hx=>hb x ω,bR h1.e λx hx=>hba x λe=>?_,λr h10 hr=>h1.c r h10 (by rwa [hA.size]at hr)⟩,λx hx=>?_,rfl,rfl,h5,hpl,h7,?_,rfl,rfl⟩
 .by_cases e:r=pp
  subst e;rw[show (w.setCell ⟨r,4+q,none⟩ (.bool true)).heap[r]?=_ from hset]at hr;injection hr with hr;subst hr;rw[hwa2];simp only[Obj.pm,Array.map_setIfInBounds];rfl;rw[hba _ λe2=>e (hinj r e2)];rw[hb r e]at hr;exact h1.a.e r o hl hr
 rw[hA.size]at hσ;by_cases e:r=pp;subst e;have:=h1.d.b C hσ r _ hl h6;rw[show (w.setCell ⟨r,4+q,none⟩ (.bool true)).heap[r]?=_ from hset]at hr;injection hr with hr;subst hr;simp only[Obj.pm,Array.map_setIfInBounds,Obj.cells.injEq]at this|-;refine⟨?_,this.2⟩;rw[this.1];rfl;rw[hb r e]at hr;exact h1.d.b C hσ r o hl hr
 .have:U.f x=x:=h1.a.d x (by have:fam.gs+5=7:=rfl;lia);have:=hinj x (this.trans e);lia
 obtain⟨z1,z2,z3⟩:=h2 x hx;refine⟨z1,(hba _ λe=>z3 pp h5 (af.f h6) e.symm).trans z2,λr h10 hr=>z3 r h10 (by rwa [hA.size]at hr)⟩;obtain⟨pb,bl,Fp,Fn,nv,g,hW⟩:=h8;exact⟨pb,bl,Fp,Fn,nv,g.k (λx hx=>hb x λe=>h7 (e▸hW x hx)) (λx hx=>hb x ω) (hA.size▸Ϫ),hW⟩
def kl(S:PS):S.MC=0\/(S.MC=6/\S.f=true)\/(S.MC=7/\S.out=true/\S.f=false):=by unfold PS.MC;cases S.f<;>cases S.out<;>simp
def tS(S:PS){t:ϝ}(ht:t.size<=16):S.Mf t=0\/S.Mf t=8\/S.Mf t=9\/S.Mf t=10\/(S.Mf t=6/\S.f=true)\/(S.Mf t=7/\S.out=true/\S.f=false):=by unfold PS.Mf;by_cases h:S.MC=0;rw[if_neg (ϰ h),if_neg ω];split;exact .inr (.inl rfl);split;exact .inr (.inr (.inl rfl));split;exact .inr (.inr (.inr (.inl rfl)));exact .inl rfl;rw[if_pos h];rcases kl S with h1|h1|h1;exact(h h1).elim;exact .inr (.inr (.inr (.inr (.inl h1))));exact .inr (.inr (.inr (.inr (.inr h1))))
abbrev Jr(c:gN):zV:=λG cr=>Md.dY c.n c.d c.b G cr
def K5{c:gN}(cr:Book):Hm λG=>Jr c G cr where
 gw h:=h.a.b
 par h hk:=by obtain⟨f,h1,h2,h3⟩:=h.a.d (yy hk);exact⟨f,h1,h2,by rw[h.a.n];exact h3⟩
 deliver k h:=h.deliver k
 drop k h:=h.drop k
 copy k h:=h.copy k
section
variable {c5:gN}{P0 G0:Nat}{J:zV}{L:List (Nat×Obj)}{O K:ϑ}{A:Ξ}{X:Ϥ}{Stop:(ϑ)->Ϛ->Ξ}{w wa:Δ}{main:Bool}{b:Frame}{a:Act}{k:List Item}{cs:List Frame}{ops:Array Oper}{i:Nat}{rest:Ϙ}{o:Oper}
def IW(v:Θ)(h:Pm.Way prog main K A X Stop O (G (b.at (a.put o.dst v) (.inRegion ops rest::k)) cs) w)(ho:ops[i]?=some o:=by exact rfl)(hw:Region.wanted o (yielded ops a.tmps)=true:=by exact rfl)(hk:b.kind≠.early:=by decide)(hr:∀wL,Rely O K A w wL->(execOp a.eval o).run prog wL=.ok (.value v) wL/\∀e∈(execOp a.eval o).events prog wL #[],Pm.Ev O K e:=by exact λwL bm=>by (obtain⟨sO,sc⟩:=Mq.side (Mq.rely ‹Mq _ _ _ _ _ _ _› ‹∀b,b<2->_› bm) (yY ..);have d0:=sc 0 _ rfl;have d1:=sc 1 _ rfl;have d2:=sc 2 _ rfl;have d3:=sc 3 _ rfl;have d4:=sc 4 _ rfl;simp only[yf,yd,ye]at d0 d1 d2 d3 d4;exact⟨by go_simp,by (simp[go_sem, *];first|exact .inl sO|exact⟨.inl sO,.inl sO,.inl sO,.inl sO,.inl sO⟩)⟩)):Pm.Way prog main K A X Stop O (G (b.at a (.inRegion ops (i::rest)::k)) cs) w:=ag ho hw hk hr h
def Kj(v:Θ)(h:Pm.Way prog main K A X Stop O (G (b.at (a.put o.dst v) (.inRegion ops rest::k)) cs) w)(ho:ops[i]?=some o:=by exact rfl)(hw:Region.wanted o (yielded ops a.tmps)=true:=by exact rfl)(hk:b.kind≠.early:=by decide)(hr:∀wL,Rely O K A w wL->(execOp a.eval o).run prog wL=.ok (.value v) wL/\∀e∈(execOp a.eval o).events prog wL #[],Pm.Ev O K e:=by exact λwL bm=>by (obtain⟨sP,c0,c1⟩:=Mq.cell2 (Mq.rely ‹Mq _ _ _ _ _ _ _› ‹∀b,b<2->_› bm);exact⟨by go_simp,by (simp[go_sem, *];exact .inl sP)⟩)):Pm.Way prog main K A X Stop O (G (b.at a (.inRegion ops (i::rest)::k)) cs) w:=ag ho hw hk hr h
def Mq.h(h:Mq c5 P0 G0 (Jr c5) L O wa)(hK:∀b,b<2->K b)(kd a b c:Int)(t:ϝ)(ha:j7 a)(hb:j7 b)(hc:j7 c){rest:List Frame}(hk:∀O' wa',Mq c5 P0 G0 (Jr c5) L O' wa'->Pm.Way prog true K A X Stop O' (G (cf.finish (.bool true)) rest) wa'):Pm.Way prog true K A X Stop O (G (Frame.enter prog 57 #[pT P0 0,.agg (aP kd a b c t)] .normal) (cf::rest)) wa:=by
 refine Mq.f h hK (f:=57) rfl rfl false (args:=[.agg (aP kd a b c t)]) ς (Q:=λv G' cr=>v=.bool true/\Jr c5 G' cr) (λw pp gb FG G1 cr h1 h2 h3 h4=>(Ci (K5 cr) pp h1 h2 h3 h4 kd a b c t ha hb hc).mono λe w' h=>⟨_,h.1,ς,h.2.imp λG' h=>⟨h.1,rfl,h.2⟩⟩) λv O5 w5 hI5=>?_;obtain rfl:v=.bool true:=
  let ⟨_,_,h,_⟩:=hI5.e
  h.1
 exact hk O5 w5 (hI5.b λ_ _ h=>h.2)
end
section
variable {O K:ϑ}{A:Ξ}{X:Ϥ}{Stop:(ϑ)->Ϛ->Ξ}{w:Δ}{main:Bool}{b:Frame}{a:Act}{k:List Item}{cs:List Frame}{ops:Array Oper}{i:Nat}{rest:Ϙ}{o:Oper}
def wU(h:Pm.Way prog main K A X Stop O (G (b.at (a.put o.dst undef) (.inRegion ops rest::k)) cs) w)(ho:ops[i]?=some o:=by exact rfl)(hw:Region.wanted o (yielded ops a.tmps)=false:=by exact rfl):Pm.Way prog main K A X Stop O (G (b.at a (.inRegion ops (i::rest)::k)) cs) w:=sr ho hw h
def wW(h:Pm.Way prog main K A X Stop O (G (b.at (a.put o.dst v) (.inRegion ops rest::k)) cs) w)(ho:ops[i]?=some o:=by exact rfl)(hw:Region.wanted o (yielded ops a.tmps)=true:=by exact rfl)(hk:b.kind≠.early:=by decide)(hr:∀wL,Rely O K A w wL->(execOp a.eval o).run prog wL=.ok (.value v) wL/\∀e∈(execOp a.eval o).events prog wL #[],Pm.Ev O K e:=by exact λwL bm=>⟨by (go_simp;(try with_reducible rfl)),by simp[go_sem, *]⟩):Pm.Way prog main K A X Stop O (G (b.at a (.inRegion ops (i::rest)::k)) cs) w:=ag ho hw hk hr h
def Φ{a':Act}{j:Nat}(x v:Θ)(e:a'.tmps[j]?=some x)(h:Pm.Way prog main K A X Stop O (G (b.at (a'.put o.dst v) (.inRegion ops rest::k)) cs) w)(ho:ops[i]?=some o:=by exact rfl)(hw:Region.wanted o (yielded ops a'.tmps)=true:=by exact rfl)(hk:b.kind≠.early:=by decide)(hr:∀a:Act,a.tmps[j]?=some x->∀wL,(execOp a.eval o).run prog wL=.ok (.value v) wL/\∀e∈(execOp a.eval o).events prog wL #[],Pm.Ev O K e:=by exact λa e wL=>⟨by simp[go_sem,Array.getD_eq_getD_getElem?,e],by simp[go_sem,Array.getD_eq_getD_getElem?,e]⟩):Pm.Way prog main K A X Stop O (G (b.at a' (.inRegion ops (i::rest)::k)) cs) w:=ag ho hw hk (λwL _=>hr _ e wL) h
end
def ξ{p q:Prop}(H:q)(h:Hid q->p:=by intro H;(first|(refine wU ?_;walk_nrm)|(refine wW ?_;walk_nrm));exact H.out):p:=h H
def ζ{p q:Prop}(H:q)(h:Hid q->p:=by (intro H;repeat first|(refine wU ?_;walk_nrm)|(refine wW ?_;walk_nrm));(repeat refine wN ?_);refine wR ?_;exact H.out):p:=h H
def φ{p q:Prop}{r:Nat}(h0:(0:Int)<=r)(h6:(r:Int)<6)(H:q)(h:Hid q->(0:Int)<=r->(r:Int)<6->p:=by intro H h0 h6;refine ag rfl rfl (by decide) (λwL bm=>⟨by (go_simp;(try with_reducible rfl)),by simp[go_sem,events_indexAt_array 42 4 6 _ .i64 _ underlying42 ⟨h0,h6⟩]⟩) ?_;walk_nrm;exact H.out):p:=h H h0 h6
def Mq.z{c5:gN}{P0 G0:Nat}{L:List (Nat×Obj)}{y:Nat×Obj}{O:ϑ}{wa:Δ}{v v':Θ}{Y:Md.Grp}{Z:Md.Book}(h:Mq c5 P0 G0 (λG cr=>v=v'/\G=Y/\cr=Z) (y::L) O wa):v=v'/\Mq c5 P0 G0 (λG cr=>G=Y/\cr=Z) L O wa:=by obtain⟨_,_,⟨rfl,-,-⟩,-⟩:=h.e;exact⟨rfl,(h.b λ_ _ h=>h.2).d λx hx=>y6 _ hx⟩
section
variable {O K:ϑ}{A:Ξ}{X:Ϥ}{Stop:(ϑ)->Ϛ->Ξ}{w:Δ}{main:Bool}{b:Frame}{a:Act}{k:List Item}{cs:List Frame}{ops:Array Oper}{i:Nat}{rest:Ϙ}{o:Oper}{c5:gN}{P0 G0:Nat}{L:List (Nat×Obj)}
def υ(q:Nat){G1:Md.Grp}{cr:Md.Book}{t:Bool}(e:cr q=t)(hI:Mq c5 P0 G0 (λG' cr'=>G'=G1/\cr'=cr) L O w)(hK:∀b,b<2->K b)(hq:q<6)(h:Pm.Way prog main K A X Stop O (G (b.at (a.put o.dst (.bool t)) (.inRegion ops rest::k)) cs) w)(ho:ops[i]?=some o:=by exact rfl)(hw:Region.wanted o (yielded ops a.tmps)=true:=by exact rfl)(hk:b.kind≠.early:=by decide)(hr:∀wL,O P0->wL.cell? (aT P0 (4+q))=some (.bool t)->(execOp a.eval o).run prog wL=.ok (.value (.bool t)) wL/\∀e∈(execOp a.eval o).events prog wL #[],Pm.Ev O K e:=by exact λwL sP c5=>⟨by go_simp,by (simp[go_sem,c5];exact .inl sP)⟩):Pm.Way prog main K A X Stop O (G (b.at a (.inRegion ops (i::rest)::k)) cs) w:=ag ho hw hk (λwL bm=>by
 obtain⟨sP,-,-,c4,-⟩:=(hI.rely hK bm).a;have c5:=c4 q hq;rw[e]at c5;exact hr wL sP c5) h
end
def Λ{p q:Prop}(H:q)(h:Hid q->p:=by intro H;(iterate 2 (refine wV (.bool false) ?_;walk_nrm));(repeat refine wN ?_);refine wF ?_;(repeat refine wN ?_);refine wR ?_;exact H.out):p:=h H
def Ω{p q:Prop}(H:q)(h:Hid q->p:=by intro H;(iterate 2 (refine wV (.bool true) ?_;walk_nrm));(repeat refine wN ?_);refine wT ?_;(repeat refine wN ?_);exact H.out):p:=h H
def μ{p q:Prop}(H:q)(h:Hid q->p:=by (intro H;walk_nrm;repeat first|(refine wU ?_;walk_nrm)|(refine wW ?_;walk_nrm));(repeat refine wN ?_);refine au rfl (λ_=>stepG_ret') ?_;exact ax rfl rfl rfl rfl rfl H.out):p:=h H
def Ψ{p q:Prop}(H:q)(h:Hid q->p:=by (intro H;repeat first|(refine wU ?_;walk_nrm)|(refine wW ?_;walk_nrm));(repeat refine wN ?_);refine wR ?_;(repeat first|(refine wU ?_;walk_nrm)|(refine wW ?_;walk_nrm));(repeat refine wN ?_);refine au rfl (λ_=>stepG_ret') ?_;exact ax rfl rfl rfl rfl rfl H.out):p:=h H
variable {c5:gN}{P0 G0:Nat}{L:List (Nat×Obj)}{O K:ϑ}{A:Ξ}{X:Ϥ}{Stop:(ϑ)->Ϛ->Ξ}{wa:Δ}
def DS(hn:1<=c5.n/\c5.n<=6)(_:c5.b<=4000)(hA:∀w d,A w->A (w.at d))(hK:∀b,b<2->K b)(h:Mq c5 P0 G0 (Jr c5) L O wa)(kd a b c:Int)(t:ϝ)(ha:j7 a)(hb:j7 b)(hc:j7 c)(hk10:kd≠10){rest:List Frame}(hk:∀O' wa',Mq c5 P0 G0 (Jr c5) L O' wa'->Pm.Way prog true K A X Stop O' (G (cf.finish (.bool true)) rest) wa'):Pm.Way prog true K A X Stop O (G (Frame.enter prog 27 #[pT P0 0,.agg #[ϲ kd,ϲ a,ϲ b,ϲ c,.string t]] .normal) (cf::rest)) wa:=by
 rw[enter_at _ func27 rfl];simp only[f27];walk_nrm;refine wN ?_;refine wR ?_;refine eP (f:=λ_=>.cells (aP kd a b c t) 51) rfl rfl θ (λwg bv=>⟨by go_simp,by simp[go_sem, *]⟩) λwg bv=>?_;walk_nrm;have hM:=(h.rely hK bv).i (.cells (aP kd a b c t) 51);obtain⟨bx,hbx⟩:∃bx,bx=wg.heap.size:=⟨_,rfl⟩;rw[<-hbx]at hM|-;generalize wg.alloc (.cells (aP kd a b c t) 51)=w3 at hM|-;generalize (λb=>O b\/b=bx)=O3 at hM|-;clear h bv hbx;refine wV (.bool false) ?_;walk_nrm;refine wN ?_;refine wN ?_;refine jw um rfl hA ?_;refine ox (m:=7) (vals:=AC bx P0 c5.n a) (I:=λO w=>Mq c5 P0 G0 (Jr c5) ((bx,Obj.cells (aP kd a b c t) 51)::L) O w) κ ?_ ?_ O3 w3 hM
 .intro i hi a' rest' O' w' hd ho hI hgo;obtain⟨sO,sc⟩:=hI.side (yY ..);obtain⟨sP,-,-⟩:=hI.cell2;match i,hi with
  |0,_=>exact Φ (pT bx 0) (pT bx 1) ((ho 3 θ).trans ς) (hgo O' w' hI)
  |1,_=>
   have e14:a'.tmps[14]?=some (pT bx 1):=hd 0 θ 14 rfl;refine ag (v:=ϲ a) rfl rfl θ (λwL bm=>?_) (hgo O' w' hI);have c1:ε wL bx 1 (ϲ a):=((hI.rely hK bm).side (yY ..)).2 1 _ rfl;exact⟨by simp[go_sem,Array.getD_eq_getD_getElem?,e14,c1],by simp[go_sem,Array.getD_eq_getD_getElem?,e14,c1];exact .inl sO⟩
  |2,_=>exact Φ (pT P0 0) (pT P0 0) ((ho 0 θ).trans ς) (hgo O' w' hI)
  |3,_=>exact Φ (pT P0 0) (pT P0 0) (hd 2 θ 16 rfl) (hgo O' w' hI)
  |4,_=>exact Φ (pT P0 0) (pT P0 1) (hd 3 θ 17 rfl) (hgo O' w' hI)
  |5,_=>exact Φ (pT P0 1) (pT P0 1) (hd 4 θ 18 rfl) (hgo O' w' hI)
  |6,_=>
   have e19:a'.tmps[19]?=some (pT P0 1):=hd 5 θ 19 rfl;refine ag (v:=ϲ c5.n) rfl rfl θ (λwL bm=>?_) (hgo O' w' hI);obtain⟨-,-,c1⟩:=(hI.rely hK bm).cell2;exact⟨by simp[go_sem,Array.getD_eq_getD_getElem?,e19,c1],by simp[go_sem,Array.getD_eq_getD_getElem?,e19,c1];exact .inl sP⟩
 intro O' w' hI l hl;have hl':=mA (L':=[[7,8]]) hl κ;rw[yu]at hl';subst hl';clear hl;simp only[AM,List.range,List.range.loop,List.foldl,dR,AC];walk_nrm;have hp:=fO a c5.n;refine wA f34 ?_;walk_nrm;refine Mq.g hI hK (f:=34) (args:=[ϲ a,ϲ c5.n]) (v:=ϲ (bw a c5.n)) rfl rfl ς ς (λw=>hp w ha hn.1 ω) λO4 w4 hI4=>?_;have hq:=cM a hn.1;generalize bw a c5.n=q at hq|-;clear hI hp hM;rw[Frame.finish_at];walk_nrm;generalize hl2:(bx,Obj.cells (aP kd a b c t) 51)::L=L2 at hI4;have hI:=hI4;clear hI4;subst hl2;refine wV (ϲ q) ?_;walk_nrm;repeat refine wN ?_
 refine wR ?_;refine wV (pT bx 0) ?_;walk_nrm;refine IW (ϲ kd) ?_;walk_nrm;repeat refine wN ?_
 refine wR ?_;by_cases h5:kd=5
 .subst h5;refine Ω ?_;refine wT ?_;repeat refine wN ?_
  refine wR ?_;refine wV (pT P0 0) ?_;walk_nrm;refine IW (.agg (aP 5 a b c t)) ?_;walk_nrm;refine wA f57 ?_;walk_nrm;refine Mq.h hI hK 5 a b c t ha hb hc λO5 w5 hI5=>?_;rw[Frame.finish_at];exact μ (hk O5 w5 (hI5.d λx hx=>y6 _ hx))
 refine Λ ?_;by_cases h6:kd=6
 .subst h6;refine Ω ?_;refine wT ?_;repeat refine wN ?_
  refine wR ?_;refine wV (pT P0 0) ?_;walk_nrm;refine IW (.agg (aP 6 a b c t)) ?_;walk_nrm;refine wA f57 ?_;walk_nrm;refine Mq.h hI hK 6 a b c t ha hb hc λO5 w5 hI5=>?_;rw[Frame.finish_at];exact μ (hk O5 w5 (hI5.d λx hx=>y6 _ hx))
 refine Λ ?_;by_cases h7:kd=7
 .subst h7;refine Ω ?_;refine wT ?_;repeat refine wN ?_
  refine wR ?_;refine wV (pT P0 0) ?_;walk_nrm;refine IW (.agg (aP 7 a b c t)) ?_;walk_nrm;refine wA f57 ?_;walk_nrm;refine Mq.h hI hK 7 a b c t ha hb hc λO5 w5 hI5=>?_;rw[Frame.finish_at];exact μ (hk O5 w5 (hI5.d λx hx=>y6 _ hx))
 refine Λ ?_;by_cases h8:kd=8
 .subst h8;refine Ω ?_;refine wT ?_;repeat refine wN ?_
  refine wR ?_;refine wV (pT P0 0) ?_;walk_nrm;refine IW (.agg (aP 8 a b c t)) ?_;walk_nrm;refine wA f57 ?_;walk_nrm;refine Mq.h hI hK 8 a b c t ha hb hc λO5 w5 hI5=>?_;rw[Frame.finish_at];exact μ (hk O5 w5 (hI5.d λx hx=>y6 _ hx))
 refine Λ ?_;by_cases h9:kd=9
 .subst h9;refine Ω ?_;refine wR ?_;refine wV (pT P0 0) ?_;walk_nrm;refine IW (.agg (aP 9 a b c t)) ?_;walk_nrm;refine wA f57 ?_;walk_nrm;refine Mq.h hI hK 9 a b c t ha hb hc λO5 w5 hI5=>?_;rw[Frame.finish_at];exact μ (hk O5 w5 (hI5.d λx hx=>y6 _ hx))
 refine Λ ?_;by_cases hc1:kd=1
 .subst hc1;refine Ω ?_;refine jw um rfl hA ?_;refine ox (m:=8) (vals:=Fb bx P0 G0 q t) (I:=λO w=>Mq c5 P0 G0 (Jr c5) ((bx,Obj.cells (aP 1 a b c t) 51)::L) O w) κ ?_ ?_ _ _ hI
  .intro i hi a' rest' O' w' hd ho hI hgo;obtain⟨sO,sc⟩:=hI.side (yY ..);obtain⟨sP,-,-⟩:=hI.cell2;match i,hi with
   |0,_=>exact Φ (pT P0 0) (pT P0 0) ((ho 0 θ).trans ς) (hgo O' w' hI)
   |1,_=>exact Φ (pT P0 0) (pT P0 0) (hd 0 θ 35 rfl) (hgo O' w' hI)
   |2,_=>exact Φ (pT P0 0) (pT P0 0) (hd 1 θ 36 rfl) (hgo O' w' hI)
   |3,_=>
    have e0:a'.tmps[37]?=some (pT P0 0):=hd 2 θ 37 rfl;refine ag (v:=pT G0 0) rfl rfl θ (λwL bm=>?_) (hgo O' w' hI);obtain⟨-,c1,-⟩:=(hI.rely hK bm).cell2;exact⟨by simp[go_sem,Array.getD_eq_getD_getElem?,e0,c1],by simp[go_sem,Array.getD_eq_getD_getElem?,e0,c1];exact .inl sP⟩
   |4,_=>exact Φ (ϲ q) (ϲ q) ((ho 5 θ).trans ς) (hgo O' w' hI)
   |5,_=>exact Φ (pT bx 0) (pT bx 4) ((ho 3 θ).trans ς) (hgo O' w' hI)
   |6,_=>
    have e0:a'.tmps[40]?=some (pT bx 4):=hd 5 θ 40 rfl;refine ag (v:=.string t) rfl rfl θ (λwL bm=>?_) (hgo O' w' hI);have c1:ε wL bx 4 (.string t):=((hI.rely hK bm).side (yY ..)).2 4 _ rfl;exact⟨by simp[go_sem,Array.getD_eq_getD_getElem?,e0,c1],by simp[go_sem,Array.getD_eq_getD_getElem?,e0,c1];exact .inl sO⟩
   |7,_=>
    have e0:a'.tmps[41]?=some (.string t):=hd 6 θ 41 rfl;refine wA f58 ?_;have ea:(#[Operand.tmp 41,Operand.const (Value.int .i64 16)].map a'.eval)=[Value.string t,ϲ 16].toArray:=by simp[Act.eval,Array.getD_eq_getD_getElem?,e0]
    rw[ea];exact Mq.g hI hK (f:=58) (args:=[.string t,ϲ 16]) (v:=.string (xU t 16)) rfl rfl ς ς (λw=>Iy t 16 w) λO5 w5 hI5=>by rw[Frame.finish_at];exact hgo O5 w5 hI5
  intro O' w' hI l hl;have hl':=mA (L':=[[8,9]]) hl κ;rw[yu]at hl';subst hl';clear hl;simp only[AM,List.range,List.range.loop,List.foldl,dR,Fb];walk_nrm;have hts:=BQ t 16;generalize xU t 16=t2 at hts|-;obtain⟨G1,cr,hR,hI⟩:=hI.e;have hq0:(0:Int)<=(q:Int):=ω;have hq6:(q:Int)<6:=ω;refine wA f56 ?_;walk_nrm;refine Mq.f hI hK (f:=56) rfl rfl true (args:=[ϲ q,.string t2]) ς (Q:=λv G' cr'=>v=ϲ ((G1.b q).Mf t2)/\G'=G1.cast q t2/\cr'=cr) (λw pp gb FG G' cr' h1 h2 h3 h4=>?_) λv O5 w5 hI5=>?_;obtain⟨rfl,rfl⟩:=h4;exact(Aj (hR.a.b) h3 (by rw[hR.a.n];exact hq) t2 hts (hR.a.c hq)).mono λe w' h=>⟨_,h.1,ς,_,h.2,rfl,rfl,rfl⟩;obtain⟨rfl,hI6⟩:=Mq.z hI5;clear hI hI5;have hI:=hI6;clear hI6;have hR2:Jr c5 (G1.cast q t2) cr:=hR.cast q t2 hq hts;rcases tS (G1.b q) hts with e|e|e|e|⟨e,h6⟩|⟨e,h7,h8⟩<;>rw[e,Frame.finish_at]<;>walk_nrm;exact Ψ (hk _ _ (hI.b λ_ _ h=>by obtain⟨rfl,rfl⟩:=h;exact hR2));exact Ψ (hk _ _ (hI.b λ_ _ h=>by obtain⟨rfl,rfl⟩:=h;exact hR2));exact Ψ (hk _ _ (hI.b λ_ _ h=>by obtain⟨rfl,rfl⟩:=h;exact hR2));exact Ψ (hk _ _ (hI.b λ_ _ h=>by obtain⟨rfl,rfl⟩:=h;exact hR2))
  .have hcq:cr q=true:=by rw[<-hR.a.e hq];exact h6
   refine ζ ?_;iterate 22 (refine ξ ?_)
   refine φ hq0 hq6 ?_;refine υ q hcq hI hK ω ?_;exact μ (hk _ _ (hI.b λ_ _ h=>by obtain⟨rfl,rfl⟩:=h;exact hR2))
  cases h8.symm.trans (hR.a.o hq h7)
 refine Λ ?_;by_cases hc2:kd=2
 .subst hc2;refine Ω ?_;refine wR ?_;iterate 3 (refine wV (pT P0 0) ?_;walk_nrm)
  refine Kj (pT G0 0) ?_;walk_nrm;refine wV (ϲ q) ?_;walk_nrm;refine wA f40 ?_;walk_nrm;obtain⟨G1,cr,hR,hI⟩:=hI.e;have hq0:(0:Int)<=(q:Int):=ω;have hq6:(q:Int)<6:=ω;refine Mq.f hI hK (f:=40) rfl rfl true (args:=[ϲ q]) ς (Q:=λv G' cr'=>v=ϲ (G1.b q).MC/\G'=G1.tick q/\cr'=cr) (λw pp gb FG G' cr' h1 h2 h3 h4=>?_) λv O5 w5 hI5=>?_;obtain⟨rfl,rfl⟩:=h4;exact(Gf (hR.a.b) h3 (by rw[hR.a.n];exact hq)).mono λe w' h=>⟨_,h.1,ς,_,h.2,rfl,rfl,rfl⟩;obtain⟨rfl,hI6⟩:=Mq.z hI5;clear hI hI5;have hI:=hI6;clear hI6;have hR2:Jr c5 (G1.tick q) cr:=hR.tick q hq;rcases kl (G1.b q)with e|⟨e,h6⟩|⟨e,h7,h8⟩<;>rw[e,Frame.finish_at]<;>walk_nrm;exact Ψ (hk _ _ (hI.b λ_ _ h=>by obtain⟨rfl,rfl⟩:=h;exact hR2))
  .have hcq:cr q=true:=by rw[<-hR.a.e hq];exact h6
   refine ζ ?_;iterate 10 (refine ξ ?_)
   refine φ hq0 hq6 ?_;refine υ q hcq hI hK ω ?_;exact μ (hk _ _ (hI.b λ_ _ h=>by obtain⟨rfl,rfl⟩:=h;exact hR2))
  cases h8.symm.trans (hR.a.o hq h7)
 refine Λ ?_;by_cases hc4:kd=4
 .subst hc4;refine Ω ?_;refine wR ?_;iterate 3 (refine wV (pT P0 0) ?_;walk_nrm)
  refine Kj (pT G0 0) ?_;walk_nrm;refine wV (ϲ q) ?_;walk_nrm;refine wA f39 ?_;walk_nrm;obtain⟨G1,cr,hR,hI⟩:=hI.e;have hq0:(0:Int)<=(q:Int):=ω;have hq6:(q:Int)<6:=ω;refine Mq.f hI hK (f:=39) rfl rfl true (args:=[ϲ q]) ς (Q:=λv G' cr'=>v=ϲ (if (G1.b q).f then 6 else 0)/\G'=G1.crash q/\cr'=cr) (λw pp gb FG G' cr' h1 h2 h3 h4=>?_) λv O5 w5 hI5=>?_;obtain⟨rfl,rfl⟩:=h4;exact(Et h3 (by rw[hR.a.n];exact hq)).mono λe w' h=>⟨_,h.1,ς,_,h.2,rfl,rfl,rfl⟩;obtain⟨rfl,hI6⟩:=Mq.z hI5;clear hI hI5;have hI:=hI6;clear hI6;have hR2:Jr c5 (G1.crash q) (cr.put q):=hR.crash q hq;rw[hR.a.e hq];cases hcq:cr q
  .simp only[yH,if_false];rw[Frame.finish_at];walk_nrm;refine ζ ?_;iterate 4 (refine ξ ?_)
   refine φ hq0 hq6 ?_;refine υ q hcq hI hK ω ?_;walk_nrm;refine ζ ?_;iterate 4 (refine ξ ?_)
   refine φ hq0 hq6 ?_;refine j3 (ad:=⟨P0,4+q,none⟩) (v:=.bool true) rfl rfl θ hI.a.1 (λwL bm=>?_) λwL bm=>?_
   .have c5:=(hI.rely hK bm).a.2.2.2.1 q ω;have hfz:=(hI.rely hK bm).c (4+q);exact⟨by go_simp,by simp[go_sem,events_store _ _ _ _ (Value.bool true) _ rfl,c5,hfz]⟩
   have hI7:=(hI.rely hK bm).j (q:=q) ω;clear hI;have hI:=hI7;clear hI7;walk_nrm;exact Ψ (hk _ _ (hI.b λ_ _ h=>by obtain⟨rfl,rfl⟩:=h;exact hR2))
  simp only[if_true];rw[Frame.finish_at];walk_nrm;refine ζ ?_;iterate 4 (refine ξ ?_)
  refine φ hq0 hq6 ?_;refine υ q hcq hI hK ω ?_;walk_nrm;refine ζ ?_;iterate 4 (refine ξ ?_)
  refine φ hq0 hq6 ?_;refine j3 (ad:=⟨P0,4+q,none⟩) (v:=.bool true) rfl rfl θ hI.a.1 (λwL bm=>?_) λwL bm=>?_
  .have c5:=(hI.rely hK bm).a.2.2.2.1 q ω;have hfz:=(hI.rely hK bm).c (4+q);exact⟨by go_simp,by simp[go_sem,events_store _ _ _ _ (Value.bool true) _ rfl,c5,hfz]⟩
  have hI7:=(hI.rely hK bm).j (q:=q) ω;clear hI;have hI:=hI7;clear hI7;walk_nrm;exact Ψ (hk _ _ (hI.b λ_ _ h=>by obtain⟨rfl,rfl⟩:=h;exact hR2))
 refine Λ ?_;by_cases hc3:kd=3
 .subst hc3;refine Ω ?_;refine jw um rfl hA ?_;refine ox (m:=7) (vals:=Fc bx P0 c5.n b) (I:=λO w=>Mq c5 P0 G0 (Jr c5) ((bx,Obj.cells (aP 3 a b c t) 51)::L) O w) κ ?_ ?_ _ _ hI
  .intro i hi a' rest' O' w' hd ho hI hgo;obtain⟨sO,sc⟩:=hI.side (yY ..);obtain⟨sP,-,-⟩:=hI.cell2;match i,hi with
   |0,_=>exact Φ (pT bx 0) (pT bx 2) ((ho 3 θ).trans ς) (hgo O' w' hI)
   |1,_=>
    have e14:a'.tmps[148]?=some (pT bx 2):=hd 0 θ 148 rfl;refine ag (v:=ϲ b) rfl rfl θ (λwL bm=>?_) (hgo O' w' hI);have c1:ε wL bx 2 (ϲ b):=((hI.rely hK bm).side (yY ..)).2 2 _ rfl;exact⟨by simp[go_sem,Array.getD_eq_getD_getElem?,e14,c1],by simp[go_sem,Array.getD_eq_getD_getElem?,e14,c1];exact .inl sO⟩
   |2,_=>exact Φ (pT P0 0) (pT P0 0) ((ho 0 θ).trans ς) (hgo O' w' hI)
   |3,_=>exact Φ (pT P0 0) (pT P0 0) (hd 2 θ 150 rfl) (hgo O' w' hI)
   |4,_=>exact Φ (pT P0 0) (pT P0 1) (hd 3 θ 151 rfl) (hgo O' w' hI)
   |5,_=>exact Φ (pT P0 1) (pT P0 1) (hd 4 θ 152 rfl) (hgo O' w' hI)
   |6,_=>
    have e19:a'.tmps[153]?=some (pT P0 1):=hd 5 θ 153 rfl;refine ag (v:=ϲ c5.n) rfl rfl θ (λwL bm=>?_) (hgo O' w' hI);obtain⟨-,-,c1⟩:=(hI.rely hK bm).cell2;exact⟨by simp[go_sem,Array.getD_eq_getD_getElem?,e19,c1],by simp[go_sem,Array.getD_eq_getD_getElem?,e19,c1];exact .inl sP⟩
  intro O' w' hI l hl;have hl':=mA (L':=[[7,8]]) hl κ;rw[yu]at hl';subst hl';clear hl;simp only[AM,List.range,List.range.loop,List.foldl,dR,Fc];walk_nrm;have hp:=fO b c5.n;refine wA f34 ?_;walk_nrm;refine Mq.g hI hK (f:=34) (args:=[ϲ b,ϲ c5.n]) (v:=ϲ (bw b c5.n)) rfl rfl ς ς (λw=>hp w hb hn.1 ω) λO4 w4 hI4=>?_;have hr:=cM b hn.1;generalize bw b c5.n=r at hr|-;have hr0:(0:Int)<=(r:Int):=ω;have hr6:(r:Int)<6:=ω;clear hI hp;rw[Frame.finish_at];walk_nrm;have hI:=hI4;clear hI4;refine wV (ϲ r) ?_;walk_nrm;obtain⟨G1,cr,hR,hI⟩:=hI.e;have hq0:(0:Int)<=(q:Int):=ω;have hq6:(q:Int)<6:=ω;repeat refine wN ?_
  refine wR ?_;iterate 3 (refine ξ ?_)
  refine ag (v:=.bool true) rfl rfl θ (λwL bm=>?_) ?_
  .obtain⟨sP,-,-,-,c10⟩:=(hI.rely hK bm).a;exact⟨by go_simp,by simp[go_sem,c10];exact .inl sP⟩
  walk_nrm;iterate 5 (refine ξ ?_)
  cases hcr:cr r
  .refine φ hr0 hr6 ?_;refine υ r hcr hI hK ω ?_;walk_nrm;repeat refine ξ ?_
   repeat refine wN ?_
   refine wT ?_;repeat refine wN ?_
   refine wR ?_;refine wV (.bool true) ?_;walk_nrm;repeat refine wN ?_
   refine au rfl (λ_=>stepG_ret') ?_;exact ax rfl rfl rfl rfl rfl (hk _ _ ((hI.b λ_ _ h=>by obtain⟨rfl,rfl⟩:=h;exact hR).d λx hx=>y6 _ hx))
  refine φ hr0 hr6 ?_;refine υ r hcr hI hK ω ?_;walk_nrm;repeat refine ξ ?_
  obtain⟨G2,hG2⟩:∃G2,G2=G1:=⟨_,rfl⟩;have hR2:Jr c5 (G1.suspect q r) cr:=hR.suspect q r hq hr hcr;repeat refine wN ?_
  refine wF ?_;repeat refine wN ?_
  refine wR ?_;iterate 3 (refine ξ ?_)
  refine Kj (pT G0 0) ?_;walk_nrm;iterate 2 (refine ξ ?_)
  refine wA f32 ?_;walk_nrm;refine Mq.f hI hK (f:=32) rfl rfl true (args:=[ϲ q,ϲ r]) ς (Q:=λv G' cr'=>v=ϲ (if r=q then 5 else (G1.b q).MC)/\G'=G1.suspect q r/\cr'=cr) (λw pp gb FG G' cr' h1 h2 h3 h4=>?_) λv O5 w5 hI5=>?_;obtain⟨rfl,rfl⟩:=h4;exact(pQ (hR.a.b) h3 (by rw[hR.a.n];exact hq) (by rw[hR.a.n];exact hr)).mono λe w' h=>⟨_,h.1,ς,_,h.2,rfl,rfl,rfl⟩;obtain⟨rfl,hI6⟩:=Mq.z hI5;clear hI hI5;have hI:=hI6;clear hI6;by_cases hrq:r=q
  .subst hrq;rw[if_pos rfl,Frame.finish_at];walk_nrm;exact Ψ (hk _ _ (hI.b λ_ _ h=>by obtain⟨rfl,rfl⟩:=h;exact hR2))
  rw[if_neg hrq];rcases kl (G1.b q)with e|⟨e,h6⟩|⟨e,h7,h8⟩<;>rw[e,Frame.finish_at]<;>walk_nrm;exact Ψ (hk _ _ (hI.b λ_ _ h=>by obtain⟨rfl,rfl⟩:=h;exact hR2))
  .have hcq:cr q=true:=by rw[<-hR.a.e hq];exact h6
   refine ζ ?_;iterate 19 (refine ξ ?_)
   refine φ hq0 hq6 ?_;refine υ q hcq hI hK ω ?_;exact μ (hk _ _ (hI.b λ_ _ h=>by obtain⟨rfl,rfl⟩:=h;exact hR2))
  cases h8.symm.trans (hR.a.o hq h7)
 iterate 2 (refine wV (.bool false) ?_;walk_nrm;refine wV (.bool false) ?_;walk_nrm;(repeat refine wN ?_);refine wF ?_;(repeat refine wN ?_);refine wR ?_)
 refine wV (.bool true) ?_;walk_nrm;repeat refine wN ?_
 refine au rfl (λ_=>stepG_ret') ?_;exact ax rfl rfl rfl rfl rfl (hk _ _ (hI.d λx hx=>y6 _ hx))
end
variable {n win lim:Nat}{P0 G0:Nat}{L:List (Nat×Obj)}{O K:ϑ}{wa:Δ}{Post:Θ->Ξ}
def KT(c5:gN)(P0 G0:Nat)(Post:Θ->Ξ)(cf:Frame)(rest:List Frame):(ϑ)->Ϛ->Ξ:=λap g wg=>
 ∃(c':Frame)(m:Nat)(L':List (Nat×Obj)),g=G (Frame.enter prog 28 #[pT G0 0] .normal) (c'::cf::rest)/\Mq c5 P0 G0 (λG' cr=>Jr c5 G' cr/\G'.a.length=m) L' ap wg/\
   ∀Wg O' wa',qp O' (λb=>b<2) wa'->Mq c5 P0 G0 (Jr c5) L' O' wa'->aC prog 148 Post Wg [] .free O' (λb=>b<2) (G (c'.finish (ϲ m)) (cf::rest)) wa'
def xT(hn:1<=n/\n<=6)(_:lim<=4000)(hK:∀b,b<2->K b)(h:Mq (gN.mk n win lim) P0 G0 (Jr (gN.mk n win lim)) L O wa)(ho:qp O K wa)(a b c:Int)(t:ϝ)(ha:j7 a){WgA:Nat}{cf:Frame}{rest:List Frame}(kont:∀Wg O' wa',qp O' (λb=>b<2) wa'->Mq (gN.mk n win lim) P0 G0 (Jr (gN.mk n win lim)) L O' wa'->aC prog 148 Post Wg [] .free O' (λb=>b<2) (G (cf.finish (.bool true)) rest) wa'):aC prog 148 Post WgA [] .free O K (G (Frame.enter prog 27 #[pT P0 0,.agg #[ϲ 10,ϲ a,ϲ b,ϲ c,.string t]] .normal) (cf::rest)) wa:=by
 have hA:∀w d,Al 148 WgA .free w->Al 148 WgA .free (w.at d):=λw d h=>h;have part1:Pm.Way prog true K (Al 148 WgA .free) (XS WgA .free) (KT (gN.mk n win lim) P0 G0 Post cf rest) O (G (Frame.enter prog 27 #[pT P0 0,.agg #[ϲ 10,ϲ a,ϲ b,ϲ c,.string t]] .normal) (cf::rest)) wa:=by
  rw[enter_at _ func27 rfl];simp;walk_nrm;refine wN ?_;refine wR ?_;refine eP (f:=λ_=>.cells (aP 10 a b c t) 51) rfl rfl θ (λwg bv=>⟨by go_simp,by simp[go_sem, *]⟩) λwg bv=>?_;walk_nrm;have hM:=(h.rely hK bv).i (.cells (aP 10 a b c t) 51);obtain⟨bx,hbx⟩:∃bx,bx=wg.heap.size:=⟨_,rfl⟩;rw[<-hbx]at hM|-;generalize wg.alloc (.cells (aP 10 a b c t) 51)=w3 at hM|-;generalize (λb=>O b\/b=bx)=O3 at hM|-;clear h bv hbx;refine wV (.bool false) ?_;walk_nrm;refine wN ?_;refine wN ?_;refine jw um rfl hA ?_;refine ox (m:=7) (vals:=AC bx P0 n a) (I:=λO w=>Mq (gN.mk n win lim) P0 G0 (Jr (gN.mk n win lim)) ((bx,Obj.cells (aP 10 a b c t) 51)::L) O w) κ ?_ ?_ O3 w3 hM
  .intro i hi a' rest' O' w' hd ho hI hgo;obtain⟨sO,sc⟩:=hI.side (yY ..);obtain⟨sP,-,-⟩:=hI.cell2;match i,hi with
   |0,_=>
    have e3:a'.tmps[3]?=some (pT bx 0):=(ho 3 θ).trans ς;exact ag (v:=pT bx 1) rfl rfl θ (λwL bm=>⟨by simp[go_sem,Array.getD_eq_getD_getElem?,e3],by simp[go_sem,Array.getD_eq_getD_getElem?,e3]⟩) (hgo O' w' hI)
   |1,_=>
    have e14:a'.tmps[14]?=some (pT bx 1):=hd 0 θ 14 rfl;refine ag (v:=ϲ a) rfl rfl θ (λwL bm=>?_) (hgo O' w' hI);have c1:ε wL bx 1 (ϲ a):=((hI.rely hK bm).side (yY ..)).2 1 _ rfl;exact⟨by simp[go_sem,Array.getD_eq_getD_getElem?,e14,c1],by simp[go_sem,Array.getD_eq_getD_getElem?,e14,c1];exact .inl sO⟩
   |2,_=>
    have e0:a'.tmps[0]?=some (pT P0 0):=(ho 0 θ).trans ς;exact ag (v:=pT P0 0) rfl rfl θ (λwL bm=>⟨by simp[go_sem,Array.getD_eq_getD_getElem?,e0],by simp[go_sem,Array.getD_eq_getD_getElem?,e0]⟩) (hgo O' w' hI)
   |3,_=>
    have e16:a'.tmps[16]?=some (pT P0 0):=hd 2 θ 16 rfl;exact ag (v:=pT P0 0) rfl rfl θ (λwL bm=>⟨by simp[go_sem,Array.getD_eq_getD_getElem?,e16],by simp[go_sem,Array.getD_eq_getD_getElem?,e16]⟩) (hgo O' w' hI)
   |4,_=>
    have e17:a'.tmps[17]?=some (pT P0 0):=hd 3 θ 17 rfl;exact ag (v:=pT P0 1) rfl rfl θ (λwL bm=>⟨by simp[go_sem,Array.getD_eq_getD_getElem?,e17],by simp[go_sem,Array.getD_eq_getD_getElem?,e17]⟩) (hgo O' w' hI)
   |5,_=>
    have e18:a'.tmps[18]?=some (pT P0 1):=hd 4 θ 18 rfl;exact ag (v:=pT P0 1) rfl rfl θ (λwL bm=>⟨by simp[go_sem,Array.getD_eq_getD_getElem?,e18],by simp[go_sem,Array.getD_eq_getD_getElem?,e18]⟩) (hgo O' w' hI)
   |6,_=>
    have e19:a'.tmps[19]?=some (pT P0 1):=hd 5 θ 19 rfl;refine ag (v:=ϲ n) rfl rfl θ (λwL bm=>?_) (hgo O' w' hI);obtain⟨-,-,c1⟩:=(hI.rely hK bm).cell2;exact⟨by simp[go_sem,Array.getD_eq_getD_getElem?,e19,c1],by simp[go_sem,Array.getD_eq_getD_getElem?,e19,c1];exact .inl sP⟩
  intro O' w' hI l hl;have hl':=mA (L':=[[7,8]]) hl κ;rw[yu]at hl';subst hl';simp only[AM,List.range,List.range.loop,List.foldl,dR,AC];walk_nrm;have hp:=fO a n;refine wA f34 ?_;walk_nrm;refine Mq.g hI hK (f:=34) (args:=[ϲ a,ϲ n]) (v:=ϲ (bw a n)) rfl rfl ς ς (λw=>hp w ha hn.1 ω) λO4 w4 hI4=>?_;have hq:=cM a hn.1;generalize bw a n=q at hq|-;rw[Frame.finish_at];walk_nrm;generalize hl2:(bx,Obj.cells (aP 10 a b c t) 51)::L=L2 at hI4;have hI:=hI4;clear hI4;subst hl2;refine wV (ϲ q) ?_;walk_nrm;repeat refine wN ?_
  refine wR ?_;refine wV (pT bx 0) ?_;walk_nrm;refine IW (ϲ 10) ?_;walk_nrm;iterate 9 ((repeat refine wN ?_);refine wR ?_;refine wV (.bool false) ?_;walk_nrm;refine wV (.bool false) ?_;walk_nrm;(repeat refine wN ?_);refine wF ?_)
  repeat refine wN ?_
  refine wR ?_;iterate 2 (refine wV (.bool true) ?_;walk_nrm)
  repeat refine wN ?_
  refine wT ?_;repeat refine wN ?_
  refine wR ?_;iterate 3 (refine wV (pT P0 0) ?_;walk_nrm)
  refine Kj (pT G0 0) ?_;walk_nrm;refine wA f41 ?_;walk_nrm;refine Mq.f hI hK (f:=41) rfl rfl true (args:=[]) ς (Q:=λv G' cr=>v=ϲ G'.a.length/\Jr (gN.mk n win lim) G' cr) (λw pp gb FG G1 cr h1 h2 h3 h4=>(vM h3).mono λe w' h=>⟨_,h.1,ς,G1,by rw[h.2];exact⟨cW.j _ _,h3.c aY.c⟩,rfl,h4⟩) λv O5 w5 hI5=>?_;obtain⟨m,rfl,hI6⟩:∃m:Nat,v=ϲ m/\Mq (gN.mk n win lim) P0 G0 (λG' cr=>Jr (gN.mk n win lim) G' cr/\G'.a.length=m) ((bx,Obj.cells (aP 10 a b c t) 51)::L) O5 w5:=by obtain⟨G1,cr,⟨h1,h2⟩,hI5⟩:=hI5.e;exact⟨G1.a.length,h1,hI5.b λG' cr' h=>by obtain⟨rfl,rfl⟩:=h;exact⟨h2,rfl⟩⟩
  clear hI hI5;have hI:=hI6;clear hI6;rw[Frame.finish_at];walk_nrm;refine wV (ϲ m) ?_;walk_nrm;repeat refine wN ?_
  refine wR ?_;iterate 3 (refine wV (pT P0 0) ?_;walk_nrm)
  refine Kj (pT G0 0) ?_;walk_nrm;refine wA f28 ?_;walk_nrm;refine .stop λwL bm=>⟨_,m,_,rfl,hI.rely hK bm,λWg O' wa' hown' hM=>?_⟩;refine aC.c (lL (Stop:=λap g wg=>g=G (cf.finish (.bool true)) rest/\Mq (gN.mk n win lim) P0 G0 (Jr (gN.mk n win lim)) L ap wg) ?_ hown') λap g wg hS=>?_
  .rw[Frame.finish_at];walk_nrm;refine wV (ϲ m) ?_;walk_nrm;repeat refine wN ?_
   refine wR ?_;iterate 2 (refine wV (ϲ m) ?_;walk_nrm)
   iterate 2 (refine wV (.bool true) ?_;walk_nrm)
   repeat refine wN ?_
   refine au rfl (λ_=>stepG_ret') ?_;exact ax rfl rfl rfl rfl rfl (.stop λw5 h5=>⟨rfl,(hM.d λx hx=>y6 _ hx).rely (λb hb=>hb) h5⟩)
  obtain⟨⟨rfl,hM2⟩,hown2⟩:=hS wg (.c _ _ _ _);exact kont Wg ap wg hown2 hM2
 refine aC.c (lL part1 ho) λap g wg hS=>?_;obtain⟨⟨c',m,L',rfl,hM,hkont⟩,hown⟩:=hS wg (.c _ _ _ _);refine wO (J:=λG' cr=>Jr (gN.mk n win lim) G' cr/\G'.a.length=m) hn hK (λG1 cr h=>?_) hM hown λWg O' wa' m' hown' hM'=>?_;have hi:=h.1.a;refine⟨hi.b,hi.n,λx hx=>?_⟩;obtain⟨k,hk⟩:=List.getElem?_of_mem hx;obtain⟨f,h1,h2,h3⟩:=hi.d (yy hk);refine⟨?_,by rw[hi.n];exact h3⟩;rw[h2];exact(wI h1).2;obtain rfl:m'=m:=by obtain⟨_,_,⟨G1,h1,h2,-⟩,-⟩:=hM'.e;exact h2.symm.trans h1.2
 refine hkont Wg O' wa' hown' (hM'.b λG' cr' h=>?_);obtain⟨G1,h1,h2,rfl⟩:=h;exact h1.1.round
variable {rest:List Frame}{sa:ϣ}{len cap:Nat}
section
def Kt(Post:Θ->Ξ)(Wg:Nat):(ϑ)->Ϛ->Ξ:=λO g w=>qp O (λb=>b<2) w->aC prog 148 Post Wg [] .free O (λb=>b<2) g w
section
variable {Wg:Nat}{O:ϑ}{wa:Δ}{Post:Θ->Ξ}{g:Ϛ}
def gZ(hown:qp O (λb=>b<2) wa)(h:Pm.Way prog true (λb=>b<2) (Al 148 Wg .free) (XS Wg .free) (Kt Post Wg) O g wa):aC prog 148 Post Wg [] .free O (λb=>b<2) g wa:=by refine aC.c (lL h hown) λap bi wg hS=>?_;obtain⟨h1,h2⟩:=hS wg (.c _ _ _ _);exact h1 h2
end
section
variable {n win lim:Nat}{P0 G0 Wg:Nat}{L:List (Nat×Obj)}{O:ϑ}{wa:Δ}{Post:Θ->Ξ}
def BF(hn:1<=n/\n<=6)(hl4:lim<=4000)(h:Mq (gN.mk n win lim) P0 G0 (Jr (gN.mk n win lim)) L O wa)(hown:qp O (λb=>b<2) wa)(kd a b c:Int)(t:ϝ)(ha:j7 a)(hb:j7 b)(hc:j7 c)(kont:∀Wg O' wa',qp O' (λb=>b<2) wa'->Mq (gN.mk n win lim) P0 G0 (Jr (gN.mk n win lim)) L O' wa'->aC prog 148 Post Wg [] .free O' (λb=>b<2) (G (cf.finish (.bool true)) rest) wa'):aC prog 148 Post Wg [] .free O (λb=>b<2) (G (Frame.enter prog 27 #[pT P0 0,.agg #[ϲ kd,ϲ a,ϲ b,ϲ c,.string t]] .normal) (cf::rest)) wa:=by
 by_cases h10:kd=10
 subst h10;exact xT hn hl4 (λb hb=>hb) h hown a b c t ha kont;exact gZ hown (DS hn hl4 (λw d h=>h) (λb hb=>hb) h kd a b c t ha hb hc h10 λO' wa' h'=>.stop λwL bm hown'=>kont Wg O' wL hown' (h'.rely (λb hb=>hb) bm))
end
def nv:List Bool->Code->Code
 |[],c=>c
 |false::p,.seq a _=>nv p a
 |true::p,.seq _ b=>nv p b
 |false::p,.block _ c=>nv p c
 |false::p,.loop c=>nv p c
 |_,_=>.skip
def Mq.k{c:gN}{P0 G0:Nat}{J:zV}{L:List (Nat×Obj)}{O:ϑ}{wa:Δ}(h:Mq c P0 G0 J L O wa):∀x∈L,O x.1/\wa.heap[x.1]?=some x.2:=by obtain⟨U,w,pp,gb,FG,G,cr,h1,h2,-⟩:=h;exact λx hx=>⟨(h2 x hx).1,(h2 x hx).2.1⟩
def KR(L:List (Nat×Obj))(sa:ϣ)(len:Nat):Prop:=∀i,i<len->∃ad ad' kd a b c t,sa=some ad/\ad.add (i*5)=ad'/\j7 kd/\j7 a/\j7 b/\j7 c/\∀(O:ϑ)(wa:Δ),(∀x∈L,O x.1/\wa.heap[x.1]?=some x.2)->O ad'.block/\∀j u,(aP kd a b c t)[j]?=some u->wa.cell? (ad'.add j)=some u
def kR(a:Addr)(w:Δ):(binOp .eql 28 (.pointer (some a)) (.pointer none)).events prog w #[]=#[]:=by
 first
 |kernel_rfl
 |rfl
 |(simp[binOp,Op.equal,Op.equalIn,go_sem,underlying28])
noncomputable def DV (p:List Bool):Code:=nv p (f13.body.getD .skip)
noncomputable def vW:Code:=DV [true,true,true,false,true,false,false]
noncomputable def IU:Code:=DV [true,true,true,true]
variable {n win lim:Nat}{P0 G0:Nat}{L:List (Nat×Obj)}{Post:Θ->Ξ}
def IB(hn:1<=n/\n<=6)(hl4:lim<=4000)(hlen:len<=9223372036854775807)(hscr:KR L sa len){k:List Item}(hk:∀Wg O wa(v0 v1 v2 v3 v4 v5 v6 v8 v9 v10 v11 v12 v13 v14 v15 v16 v17 v18 v19 v20 v21 v22 v23 v24 v25 v26 v27 v28 v29:Θ),qp O (λb=>b<2) wa->Mq (gN.mk n win lim) P0 G0 (Jr (gN.mk n win lim)) L O wa->aC prog 148 Post Wg [] .free O (λb=>b<2) (G ((base 13).at ⟨(v0::v1::v2::v3::v4::v5::v6::pT P0 0::v8::v9::v10::v11::v12::v13::v14::v15::v16::v17::v18::v19::v20::v21::v22::v23::v24::v25::v26::v27::v28::v29::[]).toArray,[]⟩ k) (cf::rest)) wa):∀(r i:Nat),i+r=len->∀(Wg:Nat)(O:ϑ)(wa:Δ)(v0 v2 v3 v4 v5 v6 v9 v10 v11 v12 v13 v14 v15 v16 v17 v18 v19 v20 v21 v22 v23 v24 v25 v26 v27 v28 v29:Θ),qp O (λb=>b<2) wa->Mq (gN.mk n win lim) P0 G0 (Jr (gN.mk n win lim)) L O wa->
   aC prog 148 Post Wg [] .free O (λb=>b<2) (G ((base 13).at ⟨(v0::.slice sa len cap::v2::v3::v4::v5::v6::pT P0 0::ϲ ((i:Nat):Int)::v9::v10::v11::v12::v13::v14::v15::v16::v17::v18::v19::v20::v21::v22::v23::v24::v25::v26::v27::v28::v29::[]).toArray,[]⟩ (.code vW::.inLoop vW::.inBlock 0::k)) (cf::rest)) wa:=by
 have hK:∀b,b<2->(λb=>b<2) b:=λb hb=>hb;intro r;induction r with
 |zero=>
  intro i hir Wg O wa;intros;rename_i hown hI
  have hlt:¬(i:Int)<(len:Int):=ω;refine gZ hown ?_;obtain⟨LP,hLP⟩:∃LP,LP=vW:=⟨_,rfl⟩;rw[<-hLP];rw[show Item.code LP=.code vW by rw[hLP]];simp only[vW,DV,nv,f13,yv];repeat refine wN ?_
  refine wR ?_;refine wV (ϲ i) ?_;walk_nrm;refine wV (.slice sa len cap) ?_;walk_nrm;refine wV (ϲ len) ?_;walk_nrm;refine wV (.bool false) ?_;walk_nrm;repeat refine wN ?_
  refine wF ?_;refine au rfl (λ_=>stepG_exit rfl) ?_;exact .stop λwL bm hown'=>by apply hk Wg O wL;exact hown';exact hI.rely hK bm
 |succ r ih=>
  intro i hir Wg O wa;intros;rename_i hown hI
  have hil:i<len:=ω;have hlt:(i:Int)<(len:Int):=ω;have hi0:(0:Int)<=(i:Int):=ω;have hadd:IntKind.i64.wrap ((i:Int)+1)=((i+1:Nat):Int):=by rw[IntKind.wrap_i64];omega
  obtain⟨ad,ad',kd,a,b,c,t,rfl,had,hkd,ha,hb,hc,hcell⟩:=hscr i hil;refine gZ hown ?_;obtain⟨LP,hLP⟩:∃LP,LP=vW:=⟨_,rfl⟩;rw[<-hLP];rw[<-hLP]at ih;rw[show Item.code LP=.code vW by rw[hLP]];simp only[vW,DV,nv,f13,yv];repeat refine wN ?_
  refine wR ?_;refine wV (ϲ i) ?_;walk_nrm;refine wV (.slice (some ad) len cap) ?_;walk_nrm;refine wV (ϲ len) ?_;walk_nrm;refine wV (.bool true) ?_;walk_nrm;repeat refine wN ?_
  refine wT ?_;repeat refine wN ?_
  refine wR ?_;refine wV (pT P0 0) ?_;walk_nrm;refine wV (.slice (some ad) len cap) ?_;walk_nrm;refine wV (ϲ i) ?_;walk_nrm;refine wV (.pointer (some ad')) ?_;walk_nrm;refine ag (v:=.agg (aP kd a b c t)) rfl rfl θ (λwL bm=>?_) ?_
  .obtain⟨sO,sc⟩:=hcell O wL (hI.rely hK bm).k;have c0:wL.cell? ad'=some (ϲ kd):=sc 0 _ rfl;have c1:wL.cell? ⟨ad'.block,ad'.off+1,none⟩=some (ϲ a):=sc 1 _ rfl;have c2:wL.cell? ⟨ad'.block,ad'.off+2,none⟩=some (ϲ b):=sc 2 _ rfl;have c3:wL.cell? ⟨ad'.block,ad'.off+3,none⟩=some (ϲ c):=sc 3 _ rfl;have c4:wL.cell? ⟨ad'.block,ad'.off+4,none⟩=some (.string t):=sc 4 _ rfl;exact⟨by go_simp,by simp[go_sem, *];exact⟨.inl sO,.inl sO,.inl sO,.inl sO,.inl sO⟩⟩
  walk_nrm;refine wA f27 ?_;walk_nrm;refine .stop λwL bm hown'=>?_;refine BF hn hl4 (hI.rely hK bm) hown' kd a b c t ha hb hc λWg' O' wa' hown2 hM=>?_;refine gZ hown2 ?_;rw[Frame.finish_at];walk_nrm;refine wV (.bool true) ?_;walk_nrm;repeat refine wN ?_
  refine wR ?_;refine wV (.bool true) ?_;walk_nrm;refine wV (.bool false) ?_;walk_nrm;repeat refine wN ?_
  refine wF ?_;repeat refine wN ?_
  refine wR ?_;refine wV (ϲ i) ?_;iterate 2 (walk_nrm;refine wV (ϲ ((i+1:Nat):Int)) ?_)
  walk_nrm;repeat refine wN ?_
  refine au rfl (λ_=>stepG_inLoop) ?_;exact .stop λwg bv hown3=>by apply ih (i+1) ω Wg' O' wg;exact hown3;exact hM.rely hK bv
def wH(hn:1<=n/\n<=6)(hwin:1<=win/\win<=8)(hl4:1<=lim/\lim<=4000)(hlen:len<=9223372036854775807)(hscr:KR L sa len){O:ϑ}{wa:Δ}{Wg:Nat}(hown:qp O (λb=>b<2) wa)(h:M0 L O wa)(kont:∀P0 G0 Wg O' wa',qp O' (λb=>b<2) wa'->Mq (gN.mk n win lim) P0 G0 (Jr (gN.mk n win lim)) L O' wa'->aC prog 148 Post Wg [] .free O' (λb=>b<2) (G (cf.finish (pT P0 0)) rest) wa'):aC prog 148 Post Wg [] .free O (λb=>b<2) (G (Frame.enter prog 13 #[.agg #[ϲ n,ϲ win,ϲ lim],.slice sa len cap,.bool true] .normal) (cf::rest)) wa:=by
 have hK:∀b,b<2->(λb=>b<2) b:=λb hb=>hb;refine gZ hown ?_;obtain⟨T0,hT0⟩:∃T0,T0=IU:=⟨_,rfl⟩;rw[enter_at _ func13 rfl];simp;walk_nrm;repeat refine wN ?_
 refine wR ?_;refine eP (f:=λ_=>.cells #[ϲ n,ϲ win,ϲ lim] 23) rfl rfl θ (λwg bv=>⟨by go_simp,by simp[go_sem, *]⟩) λwg bv=>?_;walk_nrm;have hI:=(h.rely hK bv).f (.cells #[ϲ n,ϲ win,ϲ lim] 23);obtain⟨bx,hbx⟩:∃bx,bx=wg:=⟨_,rfl⟩;rw[<-hbx]at hI|-;generalize wg.alloc (.cells #[ϲ n,ϲ win,ϲ lim] 23)=w3 at hI|-;generalize (λb=>O b\/b=bx)=O3 at hI|-;clear h bv hbx;refine wV (.pointer none) ?_;walk_nrm;repeat refine wN ?_
 refine wR ?_;refine ag (v:=.agg #[ϲ n,ϲ win,ϲ lim]) rfl rfl θ (λwL bm=>?_) ?_
 .obtain⟨sO,sc⟩:=(hI.rely hK bm).side (yY ..);have d0:=sc 0 _ rfl;have d1:=sc 1 _ rfl;have d2:=sc 2 _ rfl;exact⟨by go_simp,by simp[go_sem, *];exact⟨.inl sO,.inl sO,.inl sO⟩⟩
 walk_nrm;refine wV (.bool true) ?_;walk_nrm;refine wA f25 ?_;walk_nrm;refine M0.b (c5:=(gN.mk n win lim)) (hI.e λx hx=>y6 _ hx) hK hn hwin hl4 λP0 G0 O5 w5 hI5=>?_;rw[Frame.finish_at];walk_nrm;refine wV (pT P0 0) ?_;walk_nrm;repeat refine wN ?_
 refine wR ?_;refine wV (pT P0 0) ?_;walk_nrm;refine ag (v:=.bool false) rfl rfl θ (λwL bm=>⟨by go_simp,by simp[go_sem,kR]⟩) ?_;walk_nrm;repeat refine wN ?_
 refine wF ?_;repeat refine wN ?_
 refine wR ?_;refine wV (ϲ ((0:Nat):Int)) ?_;walk_nrm;repeat refine wN ?_
 refine au rfl (λ_=>stepG_loop) ?_;refine .stop λwL bm hown1=>IB (k:=[.code IU]) hn hl4.2 hlen hscr (λWg O wa v0 v1 v2 v3 v4 v5 v6 v8 v9 v10 v11 v12 v13 v14 v15 v16 v17 v18 v19 v20 v21 v22 v23 v24 v25 v26 v27 v28 v29 hown hI=>?_) len 0 ω _ _ _ _ _ _ _ _ _ _ _ _ _ _ _ _ _ _ _ _ _ _ _ _ _ _ _ _ _ _ hown1 (Mq.rely hI5 hK bm);refine gZ hown ?_;simp only[IU,DV,nv,f13,yv];repeat refine wN ?_
 refine wR ?_;iterate 2 (refine wV (pT P0 0) ?_;walk_nrm)
 repeat refine wN ?_
 refine au rfl (λ_=>stepG_ret') ?_;exact ax rfl rfl rfl rfl rfl (.stop λwg bv hown2=>kont P0 G0 Wg O wg hown2 (hI.rely hK bv))
end
def zy{P:ϛ}{b:Frame}{a:Act}{todo:List Item}{w:Δ}{fn:Func}{t:Nat}{v:Θ}(hni:P.inits.idxOf? b.fn=none)(hn:b.kind=.normal)(hd:a.defers=[])(hf:P.funcs[b.fn]?=some fn)(hr:fn.results=#[.tmp t])(hv:a.tmps.getD t undef=v):stepG P true (G {b.at a todo with mode:=.returning} []) w=.ended (.done v) w #[]:=by
 have h1:(results fn a.tmps).run P w=.ok v w:=(results_tmp hr _ P w).trans (by rw[hv]);have h2:(results fn a.tmps).events P w #[]=#[]:=events_results_tmp hr _ _;simp[G,stepG,unwind,doReturn,Frame.at,hn,hd,hf,h1,h2,seen,GStep.after,hni]
def KQ(L:List (Nat×Obj)):Θ->Ξ:=λv w=>v=.bool true/\∀x∈L,w.heap[x.1]?=some x.2
variable {k:List Item}
section
variable{c5:gN}{P0 G0:Nat}{L:List (Nat×Obj)}{O K:ϑ}{A:Ξ}{X:Ϥ}{Stop:(ϑ)->Ϛ->Ξ}{wa:Δ}
def M0.QY(h:M0 L O wa)(q:∀b,b<2->K b)(a b c:Int)(p:j7 a)(x:j7 b)(n:j7 c)(m:∀f d,M0 L f d->Pm.Way prog true K A X Stop f (G (cf.finish (.agg #[ϲ ((1+bw a 6:Nat):Int),ϲ ((1+bw b 8:Nat):Int),ϲ 4000])) rest) d):Pm.Way prog true K A X Stop O (G (Frame.enter prog 26 #[.agg #[ϲ a,ϲ b,ϲ c]] .normal) (cf::rest)) wa:=by
 obtain⟨z,w,l,s⟩:=h;refine fE q l s rfl rfl (λu j=>?_) ς (λy _=>(QC a b c _ p x n).mono λe g h=>h.1) (λe g h=>⟨_,h⟩) λv g i d f t o r _ _ _=>?_;simp only[Cy,yF,yU,or_false]at j;subst j;exact eM ς;injection t with e;subst e;simpa using m f d ⟨i,g,o,r⟩
def Mq.QZ{J:zV}(h:Mq c5 P0 G0 J L O wa)(y:∀G c,J G c->GW G/\G.n=c5.n)(p:1<=c5.n/\c5.n<=6)(x:∀b,b<2->K b)(t:∀b m d,Mq c5 P0 G0 (λG c=>J G c/\(b=true->∃V M a,Md.PR c c5.n V M a G/\Md.ir M<2*Md.Ed c c5.n)) L m d->Pm.Way prog true K A X Stop m (G (cf.finish (.bool b)) rest) d):Pm.Way prog true K A X Stop O (G (Frame.enter prog 31 #[pT P0 0] .normal) (cf::rest)) wa:=by
 refine Mq.f h x rfl rfl false ς (Q:=λv G c=>∃b,v=.bool b/\J G c/\(b=true->∃V M a,Md.PR c c5.n V M a G/\Md.ir M<2*Md.Ed c c5.n)) (λw r F I G c s H l j=>?_) λv B C g=>?_;obtain⟨o,i⟩:=y G c j;exact(QD r s l o i p).mono λe D⟨z,b,u,q⟩=>⟨_,u,ς,G,(GT.QV l).b z,b,rfl,j,q⟩;obtain⟨_,_,⟨b,rfl,-⟩,-⟩:=g.e;exact t b B C (g.b λ_ _⟨E,e,h⟩=>ν)
def Mq.Q0{J:zV}(h:Mq c5 P0 G0 J L O wa)(E:1<=c5.n/\c5.n<=6)(R:∀G j,J G j->GW G/\G.n=c5.n/\(∀i,i<c5.n->(G.b i).f=j i)/\∃V M l,Md.Qh j c5.n V M G/\l<c5.n/\j l=false)(Q:∀b,b<2->K b)(I:∀D o,Mq c5 P0 G0 J L D o->Pm.Way prog true K A X Stop D (G (cf.finish (.bool true)) rest) o):Pm.Way prog true K A X Stop O (G (Frame.enter prog 29 #[pT P0 0] .normal) (cf::rest)) wa:=by
 refine Mq.f h Q rfl rfl false ς (Q:=λv G j=>v=.bool true/\J G j) (λw F gb FG G j H h2 C z=>?_) λv W Y p=>?_;obtain⟨t,x,y,V,M,l,s,u,m⟩:=R G j z;have B:=t.a l (by lia);refine(QR F H C t x E (V:=V) (R:=(G.b l).Ml) ?_ ?_ y (λi q r=>?_) s.d u m).mono λe Z⟨U,P⟩=>⟨_,P,ς,G,(GT.QV C).b U,rfl,z⟩;rwa [B.g.1,t.n l (by lia)];rw[<-(s.c l u m).2];exact B.mem;obtain⟨T,N,S⟩:=s.e i q r;exact⟨T,N,(s.c i q r).1,(s.c i q r).2,S,s.b i l q r u m⟩;obtain⟨_,_,⟨rfl,-⟩,-⟩:=p.e;exact I W Y (p.b λ_ _ h=>h.2)
end
noncomputable def Qw (p:List Bool):Code:=nv p (f11.body.getD .skip)
noncomputable def Qu:Code:=Qw [true,true,true,true,true,false,true,false,false]
noncomputable def Q7:Code:=Qw [true,true,true,true,true,true]
noncomputable def QE:Code:=nv [true,false,false,false,true,false,false] Qu
noncomputable def QW:Code:=nv [true,false,false,true,false,false] QE
section
variable {n win i a P0 G0:Nat}{H:Grp}{cr:Book}{L:List (Nat×Obj)}{K:ϑ}{A:Ξ}{X:Ϥ}{Stop:(ϑ)->Ϛ->Ξ}
def QU(h:Md.dY n win 4000 H cr)(d:a<n)(c:cr a=false):(H.b a).MC=0:=(h.pj d c).elim λ_ k=>k.2.2.2.1
def Rc(hK:∀b,b<2->K b)(hR:Md.dY n win 4000 H cr)(ha:a<n)(hk:∀O q(v0 v1 v2 v3 v4 v6 v9 e3 T d7 d2 b6 Y b4 c0 a4 e6 c2 a6 Z c9 D E N V c6 W S d4 a9 a2 F d0 C b1 b8 b3 d8 c3 c8 c1 a0 e4 a1 b7 b5 b0 M d5 z y a7 b9 d9 R U b2 e0 d1 c7 B e1 P e5 u I Q a5 x d6 a3:Θ),Mq (gN.mk n win 4000) P0 G0 (λo d=>o=Md.OG cr a n H/\d=cr) L O q->Pm.Way prog true K A X Stop O (G ((base 11).at ⟨(v0::v1::v2::v3::v4::pT P0 0::v6::ϲ ((i:Nat):Int)::ϲ ((a:Nat):Int)::v9::e3::T::d7::d2::b6::Y::b4::c0::a4::e6::c2::a6::Z::c9::D::E::N::V::c6::W::S::d4::a9::a2::F::d0::C::b1::b8::b3::d8::c3::c8::c1::a0::e4::a1::b7::b5::b0::M::d5::z::y::a7::b9::d9::R::U::b2::e0::d1::c7::B::e1::P::e5::u::I::Q::a5::x::d6::a3::[]).toArray,[]⟩ k) []) q):∀(r b:Nat),b+r=n->∀(O:ϑ)(q:Δ)(v0 v1 v2 v3 v4 v6 e3 T d7 d2 b6 Y b4 c0 a4 e6 c2 a6 Z c9 D E N V c6 W S d4 a9 a2 F d0 C b1 b8 b3 d8 c3 c8 c1 a0 e4 a1 b7 b5 b0 M d5 z y a7 b9 d9 R U b2 e0 d1 c7 B e1 P e5 u I Q a5 x d6 a3:Θ),Mq (gN.mk n win 4000) P0 G0 (λo d=>o=Md.OG cr a b H/\d=cr) L O q->
   Pm.Way prog true K A X Stop O (G ((base 11).at ⟨(v0::v1::v2::v3::v4::pT P0 0::v6::ϲ ((i:Nat):Int)::ϲ ((a:Nat):Int)::ϲ ((b:Nat):Int)::e3::T::d7::d2::b6::Y::b4::c0::a4::e6::c2::a6::Z::c9::D::E::N::V::c6::W::S::d4::a9::a2::F::d0::C::b1::b8::b3::d8::c3::c8::c1::a0::e4::a1::b7::b5::b0::M::d5::z::y::a7::b9::d9::R::U::b2::e0::d1::c7::B::e1::P::e5::u::I::Q::a5::x::d6::a3::[]).toArray,[]⟩ (.code QW::.inLoop QW::.inBlock 4::k)) []) q:=by
 have hn:=hR.a.g;have e9:(0:Int)<=(a:Int):=ω;have e8:(a:Int)<6:=ω;intro r;induction r with
 |zero=>
  intro b f3 O q;intros;rename_i l
  have f0:b=n:=ω;have f2:=ω;obtain⟨LP,m⟩:∃LP,LP=QW:=⟨_,rfl⟩;rw[<-m];rw[show Item.code LP=.code QW by rw[m]];simp only[QW,QE,Qu,Qw,nv,f11,yv];repeat refine wN ?_
  refine wR ?_;refine wV (ϲ ((b:Nat):Int)) ?_;iterate 2 (walk_nrm;refine wV (pT P0 0) ?_)
  iterate 2 (walk_nrm;refine wV (pT P0 1) ?_)
  walk_nrm;refine Kj (ϲ n) ?_;walk_nrm;refine wV (.bool false) ?_;walk_nrm;repeat refine wN ?_
  refine wF ?_;refine au rfl (λ_=>stepG_exit rfl) ?_;rw[f0]at l;apply hk O q;exact l
 |succ r ih=>
  intro b f3 O q;intros;rename_i l
  have f0:b<n:=ω;have f2:(b:Int)<(n:Int):=ω;have f1:(0:Int)<=(b:Int):=ω;have e7:(b:Int)<6:=ω;have f5:IntKind.i64.wrap ((b:Int)+1)=((b+1:Nat):Int):=by rw[IntKind.wrap_i64];lia
  have s:=(hR.Qg ha b ω).1;obtain⟨LP,m⟩:∃LP,LP=QW:=⟨_,rfl⟩;rw[<-m];rw[<-m]at ih;rw[show Item.code LP=.code QW by rw[m]];simp only[QW,QE,Qu,Qw,nv,f11,yv];repeat refine wN ?_
  refine wR ?_;refine wV (ϲ ((b:Nat):Int)) ?_;iterate 2 (walk_nrm;refine wV (pT P0 0) ?_)
  iterate 2 (walk_nrm;refine wV (pT P0 1) ?_)
  walk_nrm;refine Kj (ϲ n) ?_;walk_nrm;refine wV (.bool true) ?_;walk_nrm;repeat refine wN ?_
  refine wT ?_;repeat refine wN ?_
  refine wR ?_;iterate 4 (refine ξ ?_)
  cases t:cr a with
  |true=>
   have l:=l.b (J':=λo d=>o=Md.OG cr a (b+1) H/\d=cr) λ_ _ h=>⟨h.1.trans (by show _=if !cr a&&cr b then _ else _;grind),h.2⟩;refine φ e9 e8 ?_;refine υ a t l hK ω ?_;walk_nrm;repeat (refine ξ ?_)
   repeat refine wN ?_
   refine wF ?_;repeat refine wN ?_
   refine wR ?_;refine wV (ϲ ((b:Nat):Int)) ?_;iterate 2 (walk_nrm;refine wV (ϲ ((b+1:Nat):Int)) ?_)
   walk_nrm;repeat refine wN ?_
   refine au rfl (λ_=>stepG_inLoop) ?_;apply ih (b+1) ω O q;exact l
  |false=>
   refine φ e9 e8 ?_;refine υ a t l hK ω ?_;walk_nrm;iterate 6 (refine ξ ?_)
   cases a8:cr b
   .have l:=l.b (J':=λo d=>o=Md.OG cr a (b+1) H/\d=cr) λ_ _ h=>⟨h.1.trans (by show _=if !cr a&&cr b then _ else _;grind),h.2⟩;refine φ f1 e7 ?_;refine υ b a8 l hK ω ?_;walk_nrm;repeat (refine ξ ?_)
    repeat refine wN ?_
    refine wF ?_;repeat refine wN ?_
    refine wR ?_;refine wV (ϲ ((b:Nat):Int)) ?_;iterate 2 (walk_nrm;refine wV (ϲ ((b+1:Nat):Int)) ?_)
    walk_nrm;repeat refine wN ?_
    refine au rfl (λ_=>stepG_inLoop) ?_;apply ih (b+1) ω O q;exact l
   refine φ f1 e7 ?_;refine υ b a8 l hK ω ?_;walk_nrm;repeat (refine ξ ?_)
   repeat refine wN ?_
   refine wT ?_;repeat refine wN ?_
   refine wR ?_;iterate 3 (refine ξ ?_)
   refine Kj (pT G0 0) ?_;walk_nrm;iterate 2 (refine ξ ?_)
   refine wA f32 ?_;walk_nrm;have e2:Md.OG cr a (b+1) H=(Md.OG cr a b H).suspect a b:=by show (if !cr a&&cr b then _ else _)=_;rw[t,a8];rfl
   have f6:¬b=a:=λe=>ν;have hz:=QU s ha t;refine Mq.f l hK (f:=32) rfl rfl true (args:=[ϲ a,ϲ b]) ς (Q:=λv o d=>v=ϲ 0/\o=Md.OG cr a (b+1) H/\d=cr) (λw pp gb FG o d h1 h2 h3 h4=>?_) λv O5 w5 d3=>?_;obtain⟨rfl,rfl⟩:=h4;refine(pQ (s.a.b) h3 (by rwa [s.a.n]) (by rwa [s.a.n])).mono λe w' h=>⟨_,h.1,ς,_,h.2,?_,e2.symm,rfl⟩;grind;obtain⟨_,_,⟨rfl,-,-⟩,-⟩:=d3.e;have f4:=d3.b (J':=λo d=>o=Md.OG cr a (b+1) H/\d=cr) λ_ _ h=>h.2;clear l d3;rw[Frame.finish_at];walk_nrm;repeat (refine ξ ?_)
   repeat refine wN ?_
   refine wR ?_;repeat (refine ξ ?_)
   repeat refine wN ?_
   refine wF ?_;repeat refine wN ?_
   refine wR ?_;refine wV (ϲ ((b:Nat):Int)) ?_;iterate 2 (walk_nrm;refine wV (ϲ ((b+1:Nat):Int)) ?_)
   walk_nrm;repeat refine wN ?_
   refine au rfl (λ_=>stepG_inLoop) ?_;apply ih (b+1) ω O5 w5;exact f4
def Ra(hK:∀b,b<2->K b)(hR:Md.dY n win 4000 H cr)(hk:∀O wa(v0 v1 v2 v3 v4 v6 v8 v9 v10 v11 v12 v13 v14 v15 v16 v17 v18 v19 v20 v21 v22 v23 v24 v25 v26 v27 v28 v29 v30 v31 v32 v33 v34 v35 v36 v37 v38 v39 v40 v41 v42 v43 v44 v45 v46 v47 v48 v49 v50 v51 v52 v53 v54 v55 v56 v57 v58 v59 v60 v61 v62 v63 v64 v65 v66 v67 v68 v69 v70 v71 v72 v73:Θ),Mq (gN.mk n win 4000) P0 G0 (λG' cr'=>G'=Md.bp cr n n H/\cr'=cr) L O wa->Pm.Way prog true K A X Stop O (G ((base 11).at ⟨(v0::v1::v2::v3::v4::pT P0 0::v6::ϲ ((i:Nat):Int)::v8::v9::v10::v11::v12::v13::v14::v15::v16::v17::v18::v19::v20::v21::v22::v23::v24::v25::v26::v27::v28::v29::v30::v31::v32::v33::v34::v35::v36::v37::v38::v39::v40::v41::v42::v43::v44::v45::v46::v47::v48::v49::v50::v51::v52::v53::v54::v55::v56::v57::v58::v59::v60::v61::v62::v63::v64::v65::v66::v67::v68::v69::v70::v71::v72::v73::[]).toArray,[]⟩ k) []) wa):∀(r a:Nat),a+r=n->∀(O:ϑ)(wa:Δ)(v0 v1 v2 v3 v4 v6 v9 v10 v11 v12 v13 v14 v15 v16 v17 v18 v19 v20 v21 v22 v23 v24 v25 v26 v27 v28 v29 v30 v31 v32 v33 v34 v35 v36 v37 v38 v39 v40 v41 v42 v43 v44 v45 v46 v47 v48 v49 v50 v51 v52 v53 v54 v55 v56 v57 v58 v59 v60 v61 v62 v63 v64 v65 v66 v67 v68 v69 v70 v71 v72 v73:Θ),Mq (gN.mk n win 4000) P0 G0 (λG' cr'=>G'=Md.bp cr n a H/\cr'=cr) L O wa->
   Pm.Way prog true K A X Stop O (G ((base 11).at ⟨(v0::v1::v2::v3::v4::pT P0 0::v6::ϲ ((i:Nat):Int)::ϲ ((a:Nat):Int)::v9::v10::v11::v12::v13::v14::v15::v16::v17::v18::v19::v20::v21::v22::v23::v24::v25::v26::v27::v28::v29::v30::v31::v32::v33::v34::v35::v36::v37::v38::v39::v40::v41::v42::v43::v44::v45::v46::v47::v48::v49::v50::v51::v52::v53::v54::v55::v56::v57::v58::v59::v60::v61::v62::v63::v64::v65::v66::v67::v68::v69::v70::v71::v72::v73::[]).toArray,[]⟩ (.code QE::.inLoop QE::.inBlock 2::k)) []) wa:=by
 have hn:=hR.a.g;intro r;induction r with
 |zero=>
  intro a hir O wa;intros;rename_i hI
  have han:a=n:=ω;have hlt:¬(a:Int)<(n:Int):=ω;obtain⟨LP,hLP⟩:∃LP,LP=QE:=⟨_,rfl⟩;rw[<-hLP];rw[show Item.code LP=.code QE by rw[hLP]];simp only[QE,Qu,Qw,nv,f11,yv];repeat refine wN ?_
  refine wR ?_;refine wV (ϲ ((a:Nat):Int)) ?_;iterate 2 (walk_nrm;refine wV (pT P0 0) ?_)
  iterate 2 (walk_nrm;refine wV (pT P0 1) ?_)
  walk_nrm;refine Kj (ϲ n) ?_;walk_nrm;refine wV (.bool false) ?_;walk_nrm;repeat refine wN ?_
  refine wF ?_;refine au rfl (λ_=>stepG_exit rfl) ?_;rw[han]at hI;apply hk O wa;exact hI
 |succ r ih=>
  intro a hir O wa;intros;rename_i hI
  have han:a<n:=ω;have hlt:(a:Int)<(n:Int):=ω;have hadd:IntKind.i64.wrap ((a:Int)+1)=((a+1:Nat):Int):=by rw[IntKind.wrap_i64];omega
  have hR1:=(hR.P8 a ω).1;obtain⟨LP,hLP⟩:∃LP,LP=QE:=⟨_,rfl⟩;rw[<-hLP];rw[<-hLP]at ih;rw[show Item.code LP=.code QE by rw[hLP]];simp only[QE,Qu,Qw,nv,f11,yv];repeat refine wN ?_
  refine wR ?_;refine wV (ϲ ((a:Nat):Int)) ?_;iterate 2 (walk_nrm;refine wV (pT P0 0) ?_)
  iterate 2 (walk_nrm;refine wV (pT P0 1) ?_)
  walk_nrm;refine Kj (ϲ n) ?_;walk_nrm;refine wV (.bool true) ?_;walk_nrm;repeat refine wN ?_
  refine wT ?_;repeat refine wN ?_
  refine wR ?_;refine wV (ϲ ((0:Nat):Int)) ?_;walk_nrm;repeat refine wN ?_
  refine au rfl (λ_=>stepG_loop) ?_;refine Rc hK hR1 han (λO wa v0 v1 v2 v3 v4 v6 v9 v10 v11 v12 v13 v14 v15 v16 v17 v18 v19 v20 v21 v22 v23 v24 v25 v26 v27 v28 v29 v30 v31 v32 v33 v34 v35 v36 v37 v38 v39 v40 v41 v42 v43 v44 v45 v46 v47 v48 v49 v50 v51 v52 v53 v54 v55 v56 v57 v58 v59 v60 v61 v62 v63 v64 v65 v66 v67 v68 v69 v70 v71 v72 v73 hI=>?_) n 0 ω O wa _ _ _ _ _ _ _ _ _ _ _ _ _ _ _ _ _ _ _ _ _ _ _ _ _ _ _ _ _ _ _ _ _ _ _ _ _ _ _ _ _ _ _ _ _ _ _ _ _ _ _ _ _ _ _ _ _ _ _ _ _ _ _ _ _ _ _ _ _ _ hI;repeat refine wN ?_
  refine wR ?_;refine wV (ϲ ((a:Nat):Int)) ?_;iterate 2 (walk_nrm;refine wV (ϲ ((a+1:Nat):Int)) ?_)
  walk_nrm;repeat refine wN ?_
  refine au rfl (λ_=>stepG_inLoop) ?_;apply ih (a+1) ω O wa;exact hI
end
section
variable {n win P0 G0:Nat}{G1:Grp}{cr:Book}{L:List (Nat×Obj)}{Post:Θ->Ξ}
def Re(hR:Md.dY n win 4000 G1 cr){k:List Item}(hk:∀Wg O o(v0 v1 v2 v3 v4 v6 v7 v8 v9 d1 K c6 c2 a8 R a6 b2 X d4 b4 Z S b9 y z D N b6 Q I c3 a1 V A c0 w a3 b0 a5 c7 b5 b8 b3 T d2 U a9 a7 a2 C c4 u t a0 b1 c8 H M a4 c9 c1 b7 v d0 E d3 q B F Y s c5 W:Θ),qp O (λb=>b<2) o->Mq (gN.mk n win 4000) P0 G0 (λG' c=>G'=Md.Grp.kh cr 40 G1/\c=cr) L O o->aC prog 148 Post Wg [] .free O (λb=>b<2) (G ((base 11).at ⟨(v0::v1::v2::v3::v4::pT P0 0::v6::v7::v8::v9::d1::K::c6::c2::a8::R::a6::b2::X::d4::b4::Z::S::b9::y::z::D::N::b6::Q::I::c3::a1::V::A::c0::w::a3::b0::a5::c7::b5::b8::b3::T::d2::U::a9::a7::a2::C::c4::u::t::a0::b1::c8::H::M::a4::c9::c1::b7::v::d0::E::d3::q::B::F::Y::s::c5::W::[]).toArray,[]⟩ k) []) o):∀(r i:Nat),i+r=40->∀(Wg:Nat)(O:ϑ)(o:Δ)(v0 v1 v2 v3 v4 v6 v8 v9 d1 K c6 c2 a8 R a6 b2 X d4 b4 Z S b9 y z D N b6 Q I c3 a1 V A c0 w a3 b0 a5 c7 b5 b8 b3 T d2 U a9 a7 a2 C c4 u t a0 b1 c8 H M a4 c9 c1 b7 v d0 E d3 q B F Y s c5 W:Θ),qp O (λb=>b<2) o->Mq (gN.mk n win 4000) P0 G0 (λG' c=>G'=Md.Grp.kh cr i G1/\c=cr) L O o->
   aC prog 148 Post Wg [] .free O (λb=>b<2) (G ((base 11).at ⟨(v0::v1::v2::v3::v4::pT P0 0::v6::J ((i:Nat):Int)::v8::v9::d1::K::c6::c2::a8::R::a6::b2::X::d4::b4::Z::S::b9::y::z::D::N::b6::Q::I::c3::a1::V::A::c0::w::a3::b0::a5::c7::b5::b8::b3::T::d2::U::a9::a7::a2::C::c4::u::t::a0::b1::c8::H::M::a4::c9::c1::b7::v::d0::E::d3::q::B::F::Y::s::c5::W::[]).toArray,[]⟩ (.code Qu::.inLoop Qu::.inBlock 0::k)) []) o:=by
 have hK:∀b,b<2->(λb=>b<2) b:=λb hb=>hb;intro r;induction r with
 |zero=>
  intro i e2 Wg O o;intros;rename_i p hI
  have e1:i=40:=ω;refine gZ p ?_;obtain⟨LP,j⟩:∃LP,LP=Qu:=⟨_,rfl⟩;rw[<-j];rw[show Item.code LP=.code Qu by rw[j]];simp only[Qu,Qw,nv,f11,yv];repeat refine wN ?_
  refine wR ?_;refine wV (J ((i:Nat):Int)) ?_;walk_nrm;refine wV (.bool false) ?_;walk_nrm;repeat refine wN ?_
  refine wF ?_;refine au rfl (λ_=>stepG_exit rfl) ?_;rw[e1]at hI;exact .stop λd5 l e=>by apply hk Wg O d5;exact e;exact hI.rely hK l
 |succ r ih=>
  intro i e2 Wg O o;intros;rename_i p hI
  have e4:(i:Int)<40:=ω;have e3:IntKind.i64.wrap ((i:Int)+1)=((i+1):Int):=by rw[IntKind.wrap_i64];lia
  have P:=hR.Hn i;refine gZ p ?_;obtain⟨LP,j⟩:∃LP,LP=Qu:=⟨_,rfl⟩;rw[<-j];rw[<-j]at ih;rw[show Item.code LP=.code Qu by rw[j]];simp only[Qu,Qw,nv,f11,yv];repeat refine wN ?_
  refine wR ?_;refine wV (J ((i:Nat):Int)) ?_;walk_nrm;refine wV (.bool true) ?_;walk_nrm;repeat refine wN ?_
  refine wT ?_;repeat refine wN ?_
  refine wR ?_;refine wV (J ((0:Nat):Int)) ?_;walk_nrm;repeat refine wN ?_
  refine au rfl (λ_=>stepG_loop) ?_;refine Ra hK P (λO o v0 v1 v2 v3 v4 v6 v8 v9 d1 K c6 c2 a8 R a6 b2 X d4 b4 Z S b9 y z D N b6 Q I c3 a1 V A c0 w a3 b0 a5 c7 b5 b8 b3 T d2 U a9 a7 a2 C c4 u t a0 b1 c8 H M a4 c9 c1 b7 v d0 E d3 q B F Y s c5 W hI=>?_) n 0 ω O o _ _ _ _ _ _ _ _ _ _ _ _ _ _ _ _ _ _ _ _ _ _ _ _ _ _ _ _ _ _ _ _ _ _ _ _ _ _ _ _ _ _ _ _ _ _ _ _ _ _ _ _ _ _ _ _ _ _ _ _ _ _ _ _ _ _ _ _ _ _ _ hI;repeat refine wN ?_
  refine wR ?_;iterate 3 (refine wV (pT P0 0) ?_;walk_nrm)
  refine Kj (pT G0 0) ?_;walk_nrm;refine wA f28 ?_;walk_nrm;refine .stop λd5 l e=>?_;refine wO P.a.g hK (λG' c h=>?_) (hI.rely hK l) e λe0 O' e5 m d6 hM=>?_;obtain⟨rfl,rfl⟩:=h;have hi:=P.NX.r.a;refine⟨hi.b,hi.n,λx hx=>?_⟩;obtain⟨k,hk⟩:=List.getElem?_of_mem hx;obtain⟨f,h1,h2,h3⟩:=hi.d (yy hk);refine⟨?_,by rwa [hi.n]⟩;rw[h2];exact(wI h1).2;have hI:=hM.b (J':=λG' c=>G'=Md.Grp.kh cr (i+1) G1/\c=cr) λG' c h=>by obtain⟨G2,⟨rfl,rfl⟩,-,rfl⟩:=h;exact⟨(Md.Grp.Kg P).symm,rfl⟩
  clear hM;refine gZ d6 ?_;rw[Frame.finish_at];walk_nrm;repeat refine wN ?_
  refine wR ?_;refine wV (J ((i:Nat):Int)) ?_;iterate 2 (walk_nrm;refine wV (J ((i+1:Nat):Int)) ?_)
  walk_nrm;repeat refine wN ?_
  refine au rfl (λ_=>stepG_inLoop) ?_;exact .stop λd9 d8 d7=>by apply ih (i+1) ω e0 O' d9;exact d7;exact hI.rely hK d8
end
section
variable {n win P0 G0:Nat}{H:Grp}{cr:Book}{L:List (Nat×Obj)}
def Q6(hn:1<=n/\n<=6)(gw:GW H)(t:H.n=n)(D:∀i,i<n->(H.b i).f=cr i){V M:Int}(d2:Md.Qh cr n V M H){a:Nat}(ha:a<n)(hu:cr a=false){O:ϑ}{Z:Δ}{Wg:Nat}(f:qp O (λb=>b<2) Z)(hI:Mq (gN.mk n win 4000) P0 G0 (λG' c=>G'=H/\c=cr) L O Z)(v0 v1 v2 v3 v4 v6 v7 v8 v9 d0 C c5 c1 a6 K a3 b1 T d4 b3 W N b7 p q v F b5 I B c2 Y R r b9 o a1 a8 a4 c6 b4 b8 b2 P d1 Q a7 a5 a0 u c3 l k X b0 c7 A E a2 c8 c0 b6 m c9 w d3 g s y U j c4 S:Θ):aC prog 148 (KQ L) Wg [] .free O (λb=>b<2) (G ((base 11).at ⟨(v0::v1::v2::v3::v4::pT P0 0::v6::v7::v8::v9::d0::C::c5::c1::a6::K::a3::b1::T::d4::b3::W::N::b7::p::q::v::F::b5::I::B::c2::Y::R::r::b9::o::a1::a8::a4::c6::b4::b8::b2::P::d1::Q::a7::a5::a0::u::c3::l::k::X::b0::c7::A::E::a2::c8::c0::b6::m::c9::w::d3::g::s::y::U::j::c4::S::[]).toArray,[]⟩ [.code Q7]) []) Z:=by
 have z:∀b,b<2->(λb=>b<2) b:=λb hb=>hb;apply gZ f;repeat refine wN ?_
 refine wR ?_;refine wV (pT P0 0) ?_;walk_nrm;refine wA _ ?_;walk_nrm;refine Mq.Q0 hI hn (λG' c h=>?_) z λO8 w8 a9=>?_;obtain⟨rfl,rfl⟩:=h;exact⟨gw,t,D,V,M,a,d2,ha,hu⟩;rw[Frame.finish_at];walk_nrm;refine wV (.bool true) ?_;walk_nrm;repeat refine wN ?_
 refine au rfl (λ_=>stepG_ret') ?_;exact .stop λd6 e _=>.fin rfl λd5 d=>⟨_,_,zy κ rfl rfl rfl rfl rfl,ς,rfl,λx hx=>(((a9.rely z e).rely z d).k x hx).2⟩
end
def Qz{W:Δ}{O:ϑ}(hT:Tabs W)(b1:7<=W.heap.size)(hL:∀x∈L,O x.1/\W.heap[x.1]?=some x.2)(j:qp O (λb=>b<2) W){k l u:Int}(h0:j7 k)(h1:j7 l)(h2:j7 u){sa:ϣ}{m cap:Nat}(y:m<=9223372036854775807)(v:KR L sa m):aC prog 148 (KQ L) 0 [] .free O (λb=>b<2) (G (Frame.enter prog 11 #[.agg #[J k,J l,J u],.slice sa m cap] .normal) []) W:=by
 have o:∀b,b<2->(λb=>b<2) b:=λb hb=>hb;have hM:=M0.g hT b1 hL;refine gZ j ?_;rw[enter_at _ func11 rfl];simp only[f11];repeat refine wN ?_
 refine wR ?_;refine eP (f:=λ_=>.cells #[J k,J l,J u] 23) rfl rfl θ (λi d=>⟨by go_simp,by simp[go_sem, *]⟩) λi d=>?_;have p:=(hM.rely o d).f (.cells #[J k,J l,J u] 23);obtain⟨S,A⟩:∃S,S=i:=⟨_,rfl⟩;rw[<-A]at p|-;generalize i.alloc _=w3 at p|-;generalize (λb=>O b\/b=S)=O3 at p|-;clear hM d A;refine wV (.bool false) ?_;walk_nrm;repeat refine wN ?_
 refine wR ?_;refine ag (v:=.agg #[J k,J l,J u]) rfl rfl θ (λf c=>?_) ?_
 .obtain⟨Z,sc⟩:=(p.rely o c).side (yY ..);have d0:=sc 0 _ rfl;have d1:=sc 1 _ rfl;have d2:=sc 2 _ rfl;simp only[yf,yd,ye]at d0 d1 d2;exact⟨by go_simp,by simp[go_sem, *];exact⟨.inl Z,.inl Z,.inl Z⟩⟩
 walk_nrm;refine wA _ ?_;walk_nrm;refine M0.QY (p.e λx hx=>y6 _ hx) o k l u h0 h1 h2 λO4 w4 E=>?_;have B:1<=1+bw k 6/\1+bw k 6<=6:=ϕ (cM k (n:=6) ω);have hw:1<=1+bw l 8/\1+bw l 8<=8:=ϕ (cM l (n:=8) ω);generalize 1+bw k 6=n at B|-;generalize 1+bw l 8=f5 at hw|-;clear p;rw[Frame.finish_at];walk_nrm;refine wV (.slice sa m cap) ?_;walk_nrm;refine wA f13 ?_;walk_nrm;refine .stop λf c r=>?_;refine wH (lim:=4000) B hw ω y v r (E.rely o c) λP0 G0 Wg O5 w5 t e9=>?_;refine gZ t ?_;rw[Frame.finish_at];walk_nrm;refine wV (pT P0 0) ?_;walk_nrm;repeat refine wN ?_
 refine wR ?_;refine wV (pT P0 0) ?_;walk_nrm;refine ag (v:=.bool false) rfl rfl θ (λf c=>⟨by go_simp,by simp[go_sem,kR]⟩) ?_;walk_nrm;repeat refine wN ?_
 refine wF ?_;repeat refine wN ?_
 refine wR ?_;refine wV (pT P0 0) ?_;walk_nrm;refine wA f31 ?_;walk_nrm;refine Mq.QZ e9 (λG1 cr h=>⟨h.a.b,h.a.n⟩) B o λb O6 w6 z=>?_;rw[Frame.finish_at];walk_nrm;refine wV (.bool b) ?_;walk_nrm;repeat refine wN ?_
 refine wR ?_;refine wV (.bool b) ?_;walk_nrm;cases b
 .refine wV (.bool true) ?_;walk_nrm;repeat refine wN ?_
  refine wT ?_;repeat refine wN ?_
  refine wR ?_;refine wV (.bool true) ?_;walk_nrm;repeat refine wN ?_
  refine au rfl (λ_=>stepG_ret') ?_;exact .stop λf c _=>.fin rfl λi d=>⟨_,_,zy κ rfl rfl rfl rfl rfl,ς,rfl,λx hx=>(((z.rely o c).rely o d).k x hx).2⟩
 refine wV (.bool false) ?_;walk_nrm;repeat refine wN ?_
 refine wF ?_;repeat refine wN ?_
 refine wR ?_;refine wV (J ((0:Nat):Int)) ?_;walk_nrm;repeat refine wN ?_
 refine au rfl (λ_=>stepG_loop) ?_;obtain⟨G1,cr,⟨w,s⟩,c8⟩:=z.e;have w:Md.dY n f5 4000 G1 cr:=w;obtain⟨V,M,a,s,hm⟩:=s rfl;have s:Md.PR cr n V M a G1:=s;obtain⟨V',M',f9⟩:=Md.settles w s hm;have hi:=(w.Hn 40).a;have b8:=hi.b;refine .stop λf c q=>Re w (k:=[.code Q7]) (λWg O wa v0 v1 v2 v3 v4 v6 v7 v8 v9 f7 a2 f1 e6 c9 a6 c6 d6 b3 g1 d8 b5 a7 e3 N P U a4 e1 a5 a1 e8 b7 b0 Q e4 K c3 d4 c5 f2 d9 e2 d7 a8 f8 a9 d3 c7 b9 T e7 H F b6 d5 f3 a0 a3 c4 f4 e5 e0 I f6 X g0 C R Y b4 D f0 b2 j p=>Q6 B b8 hi.n (λ_ a=>hi.e a) f9 s.b s.au j p v0 v1 v2 v3 v4 v6 v7 v8 v9 f7 a2 f1 e6 c9 a6 c6 d6 b3 g1 d8 b5 a7 e3 N P U a4 e1 a5 a1 e8 b7 b0 Q e4 K c3 d4 c5 f2 d9 e2 d7 a8 f8 a9 d3 c7 b9 T e7 H F b6 d5 f3 a0 a3 c4 f4 e5 e0 I f6 X g0 C R Y b4 D f0 b2) 40 0 ω Wg O6 f _ _ _ _ _ _ _ _ _ _ _ _ _ _ _ _ _ _ _ _ _ _ _ _ _ _ _ _ _ _ _ _ _ _ _ _ _ _ _ _ _ _ _ _ _ _ _ _ _ _ _ _ _ _ _ _ _ _ _ _ _ _ _ _ _ _ _ _ _ _ _ _ q (c8.rely o c)
end
end Go.Proofs.Y
