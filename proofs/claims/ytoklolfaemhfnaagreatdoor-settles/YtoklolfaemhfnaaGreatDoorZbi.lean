import Derived.Test.YtoklolfaemhfnaaGreatDoorZbh
set_option maxRecDepth 100000
set_option maxHeartbeats 0
set_option linter.defProp false
namespace Go.Proofs.Y.Md
section
open Codec (Msg Frame aA aK cd)
variable {cr:Book}{X:Gh}{n i:Nat}{S T U:PS}{f:Frame}{B B':Bal}{st:Nat->PS}{N:Frame->Prop}{net:List (Int×ϝ)}{V b:Int}{q:Nat}
def N7(T:PS)(B:Bal)(q:Nat):Frame:=⟨3,T.c,q,B.out,T.b,B.g,0,[],[],[]⟩
def Oh(T:PS)(B:Bal)(q:Nat):Frame:=⟨5,T.c,q,T.a.m,T.b,B.g,0,[],T.a.a,T.Mm T.a.a⟩
def Pb(m:Wf S)(l:S.MC=0)(c:S.M4=true)(p:S.g<2147483640):∃B,S.tick.d=some B/\B.out=S.tick.k:=by
 let⟨k,e⟩:=pO l;rw[e.a.f,e.a.o];unfold PS.Me;by_cases a:S.Nb=true;rw[if_pos ν,u2 m c];obtain⟨j,g⟩:=bA _ _;exact⟨_,g.a.f,g.a.o.symm⟩;rw[if_neg (by simp[a])];rcases d:S.d with _|B;grind[PS.Nb];have o:B.out=S.k:=by unfold PS.Nb at a;rw[d]at a;simpa using a
 have h:dh S (S.Mr B):=by unfold PS.Mr;split;grind[bA,Sends.a];grind[bo,Sends.a]
 exact⟨B,h.f.trans d,by show B.out=(S.Mr B).k;grind[dh.o]⟩
def Pc(e:S.MC=0)(a:S.d=some B)(g:B.out=S.k):S.tick.d=some B/\S.tick.g=S.g:=by let⟨k,d⟩:=pO e;rw[d.a.f,d.a.l];unfold PS.Me;rw[if_neg (by grind[PS.Nb]),a];grind[dh,PS.Mr,bA,Sends.a,bo,dh.l]
theorem OI(H:Wf S)(C:S.MC=0)(h:Hi S.tick)(x:S.tick.d=some B)(E:q<S.tick.n):(B.e=true->aV (cX B.a B.c) q=true->N7 S.tick B q∈S.tick.e)/\(B.e=false->aV (cX B.a B.d) q=true->Oh S.tick B q∈S.tick.e):=by
 let⟨k,d⟩:=pO C;have G:=h.a.c;have w:=h.a.lead B x;have a:∀f∈S.Me.e,f∈S.tick.e:=λf K=>Ec C▸(wi Kh _ _).snt f K;have z:(0:Int)<=q/\(q:Int)<=5:=ω;have A:Codec.dg (N7 S.tick B q)=true:=Eg ⟨by show 1<=3;omega,by show 3<=7;omega⟩ h.b z w.out ⟨h.a.view.1,h.d⟩ w.num .z rfl rfl rfl;have y:Codec.dg (Oh S.tick B q)=true:=Eg ⟨by show 1<=5;omega,by show 5<=7;omega⟩ h.b z h.a.vote.2.2 ⟨h.a.view.1,h.d⟩ w.num .z rfl h.c.vote (h.c.p _);have o:=x;have p:=E;rw[d.a.f]at o;rw[d.a.n]at p;unfold PS.Me at o p a d;by_cases c:(S.M4&&S.Nb&&decide (S.g<2147483640))=true
 .rw[if_pos c]at o p a d;simp only[Bool.and_eq_true]at c;rw[u2 H c.1.1]at o p a d;obtain⟨j,v⟩:=bA _ _;rw[v.a.f]at o;injection o with o;subst o;refine⟨λ_ u=>a _ ?_,λg=>by cases g⟩;refine MI (eX.2 ⟨by rwa [v.a.n]at p,u⟩) λU l s=>?_;have e:({(⟨3,0,q,S.p.out,U.b,S.p.g,0,[],[],[]⟩:Frame)with f:=(U.c:Int)})=N7 S.tick S.p q:=by unfold N7;rw[d.a.i,d.a.a,v.a.i,v.a.a,s.a.i,s.a.a]
  grind
 rw[if_neg c]at o p a d;rcases D:S.d with _|r;grind;rw[D]at o p a d;simp only at o p a d;have t:dh S (S.Mr r):=by unfold PS.Mr;split;grind[bA,Sends.a];grind[bo,Sends.a]
 rw[t.f,D]at o;injection o with o;subst o;rw[t.n]at p;constructor
 .intro g u;apply a;unfold PS.Mr;rw[if_pos g];refine MI (eX.2 ⟨p,u⟩) λU l s=>?_;have e:({(⟨3,0,q,r.out,U.b,r.g,0,[],[],[]⟩:Frame)with f:=(U.c:Int)})=N7 S.tick r q:=by unfold N7;rw[d.a.i,d.a.a,t.i,t.a,s.a.i,s.a.a]
  grind
 intro g u;apply a;unfold PS.Mr;rw[if_neg ν];refine MI (eX.2 ⟨p,u⟩) λU l s=>?_;have I:S.tick.Mm S.tick.a.a=S.Mm S.a.a:=by
  have F:(S.Mr r).o=S.o:=by unfold PS.Mr;split;grind;grind[bo,Sends.i]
  unfold PS.Mm PS.Mp;rw[d.i,F,d.a.c,t.c]
 have e:({(⟨5,0,q,U.a.m,U.b,r.g,0,[],U.a.a,S.Mm S.a.a⟩:Frame)with f:=(U.c:Int)})=Oh S.tick r q:=by unfold Oh;rw[I,d.a.i,d.a.a,d.a.c,t.i,t.a,t.c,s.a.i,s.a.a,s.a.c]
 grind
def PJ.h(p:PJ X cr n i S)(x:XI X cr n)(k:n<=6)(e:FT S):∀q,aV S.a.m q=true->q<n:=λq a=>by
 by_cases c:S.a.b=0
 rw[(e.y c).1]at a;simp[aV]at a;exact x.o k _ rfl p.a ((x.a _ _ _ (p.vote.2 c).2).2.1 q a)
def OX(a:Wf T)(c:T.d=some B)(h:0<B.g)(d:∀q,aV B.out q=true->q<T.n)(e:q≠T.c):na (N7 T B q) q T.n=true:=by have g:=a.num;refine Ef rfl (by show ((T.c:Int))≠q;omega) (by show (T.c:Int)<T.n;omega) (lv a.c (a.lead B c).out d) (oo _) (oo _) nofun ?_;grind[N7,cH]
def LS.j(P:LS X cr n i S)(J:PJ X cr n i S)(a:n<=6)(c:FT S)(k:S.d=some B)(l:B.e=false)(o:q≠i):na (Oh S B q) q n=true:=by have b:=J.lead B k;have t:=(b.vote l).1;have s:=b.e;have d:=P.a.vote.2.1 ω;have e:=P.d;have r:=P.num;have:=P.a.num;refine Ef rfl (by show ((S.c:Int))≠q;omega) (by show (S.c:Int)<n;omega) (lv a P.a.vote.2.2 (J.h P.x a c)) (oo _) ?_ (λm p=>?_) ?_;grind[Oh,dp];have:=jK p;exact(J.ms m this).a P.x a J.a (c.ms m this);grind[Oh,cH]
def SF.m(h:SF cr n st (ga net))(l:∀c∈net,∃f,Codec.dg f=true/\c=zY f)(t:FT (st i))(g:i<n)(P:(st i).g<=b)(E:((st i).Nc (Grp.MT net i)).b=(st i).b)(M:Hb n i net (st i) b)(j:ga net f)(s:f.j=i):∃a m,SF cr n (tl st i a) (ga net)/\a.b=(st i).b/\a.m=(st i).m/\a.g<=b/\FT a/\wy (a.Mn (Codec.im f)) m/\SF cr n (tl st i m) (ga net)/\(st i).Nc (Grp.MT net i)=m.tick:=by
 let⟨a,m,z,o,v,w,e⟩:=h.at g l .c .a (M.a (Int.le_trans ((h.j (i:=i)).c g).1.prom.1 P) g) j s;have Z:=o.g.g;have Y:=(dm z g j.1).g;have Q:=v.g.g;have W:=(iE (w.c g).1).g;rw[e]at E;have d:a.b=(st i).b:=ω;exact⟨a,m,z,d,o.g.mem d,o.p rfl rfl d P,o.d t,v.g,w,e⟩
def SF.g(h:SF cr n st (ga net))(v:∀c∈net,∃f,Codec.dg f=true/\c=zY f)(G:FT (st i))(z:n<=6)(o:i<n)(hu:cr i=false)(hp:(st i).g<=b)(hz:((st i).Nc (Grp.MT net i)).b=(st i).b)(Z:(st i).b<=6)(hb:Hb n i net (st i) b)(K:ga net f)(hd:f.j=i)(x:na f i n=true)(t:aV (st i).m f.f.toNat=true)(hv:f.h=(st i).b)(w:f.a=b)(hk:f.c=3\/f.c=5):∃g∈((st i).Nc (Grp.MT net i)).e,g.c=(if f.c=3 then 4 else 6)/\g.f=i/\g.j=f.f/\g.h=(st i).b/\g.a=b/\∀q:Nat,f.f=q->q≠i->na g q n=true:=by
 let⟨a,S3,M,O,e2,e3,r,W,a3,e⟩:=h.m v G o hp hz hb K hd;obtain⟨X,s,P,J,F,-⟩:=M.l o hu;have d:=P.a;have c1:=P.num;have y:=P.d;have A:=LB K.1 x;rw[og K.1 F (show na f a.c a.n=true by rwa [c1,y])]at W;have R:=A.PG ω;have D:=d.c;have l:=d.g.1;let⟨q0,a2,a0⟩:=A.src;have Y:∀g:Frame,g∈(a.MW f).e->g∈((st i).Nc (Grp.MT net i)).e:=λg hg=>by rw[e];exact(iE (a3.c o).1).snt _ (W.snt _ hg)
 have u:a.MW f=a.L9 f:=by unfold PS.MW;rw[if_neg ω,if_neg ω,if_pos ν]
 rcases hk with k|k
 .have I:a.MW f=(((a.Mx f.a).suspect f.b).MZ ⟨4,0,f.f,a.a.m,a.b,f.a,a.a.b,a.Ml,a.a.a,((a.Mx f.a).suspect f.b).Mp⟩):=by rw[u];unfold PS.L9;rw[if_neg ω,if_neg ω,if_pos k];unfold PS.MR;rw[if_neg ω];rfl
  refine⟨⟨4,a.c,f.f,a.a.m,a.b,f.a,a.a.b,a.Ml,a.a.a,a.Mp⟩,Y _ ?_,ν,ν,rfl,O,w,λq C H=>?_⟩;rw[I];apply Ea (S:=(a.Mx f.a).suspect f.b);exact Eg (f:=⟨4,a.c,f.f,a.a.m,a.b,f.a,a.a.b,a.Ml,a.a.a,a.Mp⟩) ⟨ς,ς⟩ ⟨ς,ν⟩ ⟨ν,ν⟩ d.vote.2.2 ⟨d.view.1,ν⟩ A.ballot (show nD a.a.b by have:=J.vote.1;have:=d.vote.1;have:=d.prom;unfold nD at*;omega) (d.g.PH D) r.vote (r.v (Nat.le_of_eq ll) λ_=>lq.1);have j:a.a.a.length=n\/a.a.b=0/\a.a.a=[]:=by
   by_cases c:a.a.b=0
   exact .inr ⟨c,(r.y c).2⟩;exact .inl (by rw[d.vote.2.1 c,y])
  refine Ef C ν ν (lv z d.vote.2.2 (J.h P.x z r)) (by grind[dp]) ?_ (λm t=>?_) ?_;grind[dp];have t:m∈a.o:=lq.1 t;exact(J.ms m t).a P.x z J.a (r.ms m t);have:f.a≠0:=ω;grind[cH]
 have I:a.MW f=(({a.Mx f.a with a:=⟨f.a,f.b,f.i⟩}.Mc f.d).MZ ⟨6,0,f.f,0,a.b,f.a,0,[],[],[]⟩):=by rw[u];unfold PS.L9;rw[if_neg ω,if_neg ω,if_neg ω,if_neg ω,if_pos k];unfold PS.MK;rw[if_neg ω]
 have en:({a.Mx f.a with a:=⟨f.a,f.b,f.i⟩}.Mc f.d).c=a.c:=(bf _ _).i;refine⟨⟨6,a.c,f.f,0,a.b,f.a,0,[],[],[]⟩,Y _ ?_,ν,ν,rfl,O,w,λq C H=>?_⟩
 .rw[I];have:=Ea (S:={a.Mx f.a with a:=⟨f.a,f.b,f.i⟩}.Mc f.d) (f:=⟨6,0,f.f,0,a.b,f.a,0,[],[],[]⟩) (by rw[en];exact Eg (f:=⟨6,a.c,f.f,0,a.b,f.a,0,[],[],[]⟩) ⟨ς,ς⟩ ⟨ς,ν⟩ ⟨ν,ν⟩ .b ⟨d.view.1,ν⟩ A.ballot .z rfl rfl rfl)
  grind
 refine Ef C ν ν (lv z (m:=0) .b (by simp[aV])) (oo _) (oo _) nofun ?_;have:f.a≠0:=ω;grind[cH]
variable {win l:Nat}{M:Int}{G:Grp}{L:List Frame}
def LG.d(c:T.d=some B')(g:LG b B B')(d:T.g=b):∃B',T.d=some B'/\LG b B B'/\T.g=b:=⟨B',c,g,d⟩
def SF.p(h:SF cr n st (ga net))(z:∀c∈net,∃f,Codec.dg f=true/\c=zY f)(j:i<n)(hu:cr i=false)(hz:((st i).Nc (Grp.MT net i)).b=(st i).b)(hB:(st i).d=some B)(A:B.g=(st i).g)(hb:∀f,ga net f->kb f->f.h=(st i).b->f.a<=(st i).g)(hD:∀q,aV B.out q=(aV (st i).m q&&cr q))(hs:∀q,aV (st i).m q=true->cr q=true->aV (st i).k q=true):∃P,((st i).Nc (Grp.MT net i)).d=some P/\LG (st i).g B P/\((st i).Nc (Grp.MT net i)).g=(st i).g/\∀f,ga net f->f.j=i->na f i n=true->f.h=(st i).b->aV (st i).m f.f.toNat=true->f.a=(st i).g->aV B.a f.f.toNat=true->(f.c=4->P.e=true->aV P.c f.f.toNat=true)/\(f.c=6->B.e=false->aV P.d f.f.toNat=true):=by
 have t:∀S f,SF cr n (tl st i S) (ga net)->ga net f->Codec.dg f=true->S.b=(st i).b->(S.Mn (Codec.im f)).b=(st i).b->∀C,S.d=some C->C.g=(st i).g->S.g=(st i).g->∃d,(S.Mn (Codec.im f)).d=some d/\LG (st i).g C d/\(S.Mn (Codec.im f)).g=(st i).g/\
  (na f i n=true->f.h=S.b->aV S.m f.f.toNat=true->(f.c=4->f.a=S.g->aV C.a f.f.toNat=true->d.e=true->aV d.c f.f.toNat=true)/\(f.c=6->f.a=S.g->aV C.a f.f.toNat=true->C.e=false->aV d.d f.f.toNat=true)):=by
  intro S f a hN p W H C o v r;let⟨D,n1,n2⟩:=a.c j;have ha:=a.b j hu;by_cases u:na f i n=true;have e:=og p ha (by rwa [n1,n2]);have k:=a.a j ⟨f,hN,rfl⟩;rw[jg,KH]at k;have ho:=(Bo (k.b j hu)).2;rw[e]at H ho|-;let⟨d,K,s,E,p4⟩:=OZ D (LB p (by rwa [n2])) o (v.trans r.symm) (λk e=>by rw[r];exact hb f hN k ω) ω ho;rw[r]at s E;exact⟨d,K,s,E,λ_=>p4⟩;rcases Ae p S with e|⟨-,I,e⟩;rw[e];exact⟨C,o,.a v,r,λk=>absurd k u⟩;rw[n1,n2]at I;exact absurd I u
 let R:=λS T=>wy S T/\(S.b=(st i).b->T.b=(st i).b->∀C,S.d=some C->C.g=(st i).g->S.g=(st i).g->∃d,T.d=some d/\LG (st i).g C d/\T.g=(st i).g)
 have hr:∀S,R S S:=λS=>⟨.c S,λ_ _ C o v r=>⟨C,o,.a v,r⟩⟩;have ht:∀S T U,R S T->R T U->R S U:=λS T U x y=>⟨x.1.a y.1,λW H C o v r=>
  have:=x.1.g;have:=y.1.g
  let ⟨d,a1,a2,a3⟩:=x.2 W ω C o v r
  let ⟨a0,F,b2,O⟩:=y.2 ω H d a1 a2.num a3
  ⟨a0,F,a2.c b2,O⟩⟩
 have Y:∀S f,SF cr n (tl st i S) (ga net)->ga net f->Codec.dg f=true->f.j=i->R S (S.Mn (Codec.im f)):=λS f a hN p _=>⟨dm a j p,λW H C o v r=>by obtain⟨d,K,s,E,-⟩:=t S f a hN p W H C o v r;exact⟨d,K,s,E⟩⟩
 have Z:∀m C,SF cr n (tl st i m) (ga net)->wy (st i) m->m.b=(st i).b->m.d=some C->LG (st i).g B C->m.g=(st i).g->m.tick.d=some C/\m.tick.g=(st i).g:=by
  intro m C a g hv o lg u;obtain⟨X,-,l,pf,ab,-⟩:=a.l j hu;have D:=l.a;have e:C.out=m.k:=by
   refine(D.lead C o).out.e D.sus λq=>?_;rw[lg.out,hD];have hm:=g.mem hv;cases e:aV m.k q with
   |true=>
    have h2:=gn D.sus D.mem q;rw[D.h.1,e]at h2;rw[<-hm,pf.sus q e];simpa using h2.symm
   |false=>
    refine Bool.eq_false_iff.2 λc=>?_;rw[Bool.and_eq_true]at c;have:=g.sus hv q (hs q c.1 c.2);rw[e]at this;cases this
  have:=Pc (a.b j hu) o e;exact⟨this.1,this.2.trans u⟩
 let⟨m,a3,g3,e3⟩:=h.e (R:=R) j z hr ht Y;have gt:=iE (a3.c j).1;have W:=g3.1.g;have H:=gt.g;have a6:=hz;rw[e3]at a6;let⟨C,d1,d2,d3⟩:=g3.2 rfl ω B hB A rfl;let⟨w1,w2⟩:=Z m C a3 g3.1 ω d1 d2 d3;rw[<-e3]at w1 w2;refine⟨C,w1,d2,w2,λf p hd u hv hm Q w=>?_⟩;let⟨S1,S4,a1,F,O,a4,e4⟩:=h.at (R:=R) j z hr ht Y p hd;have a5:=iE (a4.c j).1;have g2:=dm a1 j p.1;have u1:=F.1.g;have u2:=g2.g;have u3:=O.1.g;have u4:=a5.g;rw[e4]at hz;let⟨C1,K,s,E⟩:=F.2 rfl ω B hB A rfl;let⟨C2,q1,q2,q3,q4⟩:=t S1 f a1 p p.1 ω ω C1 K s.num E;let⟨C4,r1,r2,r3⟩:=O.2 ω ω C2 q1 q2.num q3;obtain⟨x1,-⟩:=Z S4 C4 a4 (F.1.a (g2.a O.1)) ω r1 ((s.c q2).c r2) r3;rw[<-e4,w1]at x1;injection x1 with x1;subst x1;have q5:=q4 u ω (by rwa [F.1.mem ω]);rw[s.asked,E]at q5;refine⟨λk g=>?_,λk g=>?_⟩;have:=(r2.answ g);exact this.2 _ (q5.1 k Q w this.1);have g1:=(s.acc g).1;exact(r2.acc (q2.acc g1).1).2 _ (q5.2 k Q w g1)
structure PB(cr:Book)(n:Nat)(V M:Int)(l:Nat)(b:Int)(B:Bal)(G:Grp)(L:List Frame):Prop where
 e:∀i,i<n->cr i=false->(G.b i).b=V/\(G.b i).m=M/\(G.b i).g<=b
 g:∀f∈L,kb f->f.h=V->f.a<=b
 lead:(G.b l).d=some B
 num:B.g=b
 prom:(G.b l).g=b
 out:∀q,aV B.out q=(aV M q&&cr q)
def Fr(k:Int)(a c:Nat)(V b:Int)(n:Nat)(f:Frame):Prop:=f.c=k/\f.f=a/\f.j=c/\f.h=V/\f.a=b/\na f c n=true
def NY.r(s:NY cr G L)(h:ga G.a f):f∈L:=by rw[s.net]at h;let⟨g,a,e⟩:=List.mem_map.1 h.2;rwa [<-N1 (s.b g a) h.1 e]
structure Tn(cr:Book)(n:Nat)(G H:Grp)(i:Nat):Prop where
 a:SF cr n H.b (ga H.a)
 net:∀c∈H.a,∃f,Codec.dg f=true/\c=zY f
 j:FT (H.b i)
 z:((H.b i).Nc (Grp.MT H.a i)).b=(H.b i).b
 e:H.MU.b i=(H.b i).Nc (Grp.MT H.a i)
 g:wy (H.b i) ((H.b i).Nc (Grp.MT H.a i))
 sus:∀q,aV (H.b i).m q=true->cr q=true->aV (H.b i).k q=true
 st:H.b i={G.b i with k:=(H.b i).k}
 t:(G.bc cr).b i={H.MU.b i with e:=[]}
def Of.a(A:Of cr n G)(h:dY n win 4000 G cr)(d:i<n)(p:cr i=false):Tn cr n G (bp cr n n G) i:=by have t:=h.NX;have m:=t.r.sf;have j:=t.r.a.i.2;have v:=ln h d;have u:=A i d p;rw[v]at u;have w:=t.sus.st i;obtain⟨D,a,g,e⟩:=m.e d j wy.c (λ_ _ _=>wy.a) λS f h _ o _=>dm h d o;refine⟨m,j,t.r.ft i d,?_,rfl,by rw[e];exact g.a (iE (a.c d).1),λq C s=>?_,w,v⟩;exact u.trans (by rw[w]);have y:=t.r.Pf d p C;exact t.c i d p q y s ν
def PB.c(p:PB cr n V M l b B' (G.bc cr) L)(h:dY n win 4000 G cr)(d:l<n)(e:cr l=false):(∀q,aV B'.a q=(aV M q&& !cr q))/\∀q,q<n->cr q=false->q≠l->
 (B'.e=true->aV B'.c q=false->∃f∈(bp cr n n G).LQ,Fr 3 l q V b n f)/\(B'.e=false->aV B'.d q=false->∃f∈(bp cr n n G).LQ,Fr 5 l q V b n f):=by
 have t:=h.NX;have a:=t.r.P9 d e;have Q:=ln h d;have z:((bp cr n n G).MU.b l).d=some B':=by have:=p.lead;rwa [Q]at this
 have E:=h.Is;obtain⟨X,-,F,J,-,up⟩:=E.pj d e;have s:=J.lead B' p.lead;have I:0<b:=by have:=s.e;rwa [p.num]at this
 have m:=(p.e l d e).2.1;have k:∀q,aV B'.a q=(aV M q&& !cr q):=λq=>by rw[s.g,lX F.a.mem s.d,m,p.out];grind
 have y:((bp cr n n G).MU.b l).b=V:=by have:=(p.e l d e).1;rwa [Q]at this
 have C:=a.b.a.lead B' z;have g:∀q,q<n->(B'.e=true->aV (cX B'.a B'.c) q=true->N7 ((bp cr n n G).MU.b l) B' q∈((bp cr n n G).MU.b l).e)/\(B'.e=false->aV (cX B'.a B'.d) q=true->Oh ((bp cr n n G).MU.b l) B' q∈((bp cr n n G).MU.b l).e):=λq o=>by let⟨S,Y,D,N⟩:=t.r.NH d e;grind[Qi.b,Qi.c,OI]
 have v:∀q,q<n->cr q=false->aV M q=true:=λq o u=>by rw[<-m];exact up q o u
 refine⟨k,λq o u w=>⟨λA K=>?_,λA K=>?_⟩⟩
 .refine⟨_,tC h d ((g q o).1 A ?_),rfl,by show (((bp cr n n G).MU.b l).c:Int)=l;rw[a.num],rfl,y,p.num,?_⟩;grind[lX,lh.asked,lh.answ];have:=OX a.b.a z (by grind[num]) (λx W=>?_) (by rwa [a.num]);grind[Qi.c];rw[p.out,Bool.and_eq_true]at W;rw[a.c];exact E.Pf d e ν
 refine⟨_,tC h d ((g q o).2 A ?_),rfl,by show (((bp cr n n G).MU.b l).c:Int)=l;rw[a.num],rfl,y,p.num,?_⟩;grind[lX,lh.asked,lh.acc];obtain⟨X,-,P,J,-⟩:=t.r.a.m.k d e;exact P.j J h.a.g.2 a.b.c z A w
def PB.a(p:PB cr n V M l b B G L)(s:NY cr G L)(h:dY n win 4000 G cr)(w:l<n)(o:cr l=false)(a2:∀r,r<l->cr r=true)(fz:Of cr n G):∃F,PB cr n V M l b F (G.bc cr) (bp cr n n G).LQ/\LG b B F/\∀q,q<n->cr q=false->q≠l->
   (∀f∈L,Fr 3 l q V b n f->∃g∈(bp cr n n G).LQ,Fr 4 q l V b n g)/\(∀f∈L,Fr 5 l q V b n f->∃g∈(bp cr n n G).LQ,Fr 6 q l V b n g)/\
   (∀f∈L,Fr 4 q l V b n f->F.e=true->aV F.c q=true)/\(∀f∈L,Fr 6 q l V b n f->B.e=false->aV F.d q=true):=by
 have t:=h.NX;have en:=t.r.a.n;have T:=λi v d=>fz.a h (i:=i) v d;have j:∀i,i<n->cr i=false->((bp cr n n G).b i).b=V/\((bp cr n n G).b i).m=M/\((bp cr n n G).b i).g<=b:=λi v d=>by rw[(T i v d).st];exact p.e i v d
 have Z:∀f,ga (bp cr n n G).a f->f∈L:=λf u=>s.r (by rw[<-t.sus.net];exact u);have H:∀f∈L,ga (bp cr n n G).a f:=λf u=>by rw[t.sus.net];exact s.d u
 have y:=T l w o;obtain⟨X,-,ls,J,-,up⟩:=y.a.k w o;have E:∀q,q<n->cr q=false->aV M q=true:=λq m d=>by rw[<-(j l w o).2.1];exact up q m d
 have R:((bp cr n n G).b l).d=some B:=by rw[y.st];exact p.lead
 have N:((bp cr n n G).b l).g=b:=by rw[y.st];exact p.prom
 have Y:V<=6:=by have:=t.r.PE w o;rw[(j l w o).1]at this;have:=h.a.g;omega
 let⟨F,w1,P,w3,w4⟩:=y.a.p y.net w o y.z R (p.num.trans N.symm) (λf u k hv=>by rw[N];exact p.g f (Z f u) k ν) (λq=>by rw[(j l w o).2.1];exact p.out q) y.sus;rw[N]at P w3 w4;rw[<-y.e]at w1 w3;have D:∀i,i<n->cr i=false->Hb n i (bp cr n n G).a ((bp cr n n G).b i) b:=λi v d f u _ k hv _ _=>p.g f (Z f u) k ν;have U:∀i,i<n->cr i=false->((bp cr n n G).MU.b i).g<=b:=λi v d=>by have x:=T i v d;by_cases e:i=l;subst e;omega;have a0:l<i:=ν;let⟨S3,a,g,e3,v3,p3⟩:=x.a.h x.net v (j i v d).2.2 x.z (D i v d);rw[x.e,e3];rcases N4 (a.c v).1 (a.b v d)with k|⟨k,-⟩;omega;rw[(a.d v d a0 o).1]at k;cases k
 have A:((G.bc cr).b l).d=some F:=by rw[y.t];exact w1
 have r1:=h.Is;obtain⟨X',-,l',J',-⟩:=r1.pj w o;have S:=J'.lead F A;have O:((G.bc cr).b l).m=M:=by rw[y.t];show ((bp cr n n G).MU.b l).m=M;rw[y.e,y.g.mem y.z];exact(j l w o).2.1
 have K:∀q,q<n->cr q=false->aV F.a q=true:=λq m d=>by rw[S.g,lX l'.a.mem S.d,O,E q m d,P.out,p.out,d];simp
 refine⟨F,⟨λi v d=>?_,λf u k hv=>?_,A,P.num,by grind[Tn.t],λq=>by rw[P.out];exact p.out q⟩,P,λq m d W=>⟨λf u k=>?_,λf u k=>?_,λf u k hg=>?_,λf u k hg=>?_⟩⟩
 .have x:=T i v d;rw[x.t];refine⟨?_,?_,U i v d⟩;grind[Tn.e,Tn.z];show ((bp cr n n G).MU.b i).m=M;rw[x.e,x.g.mem x.z];grind
 .let⟨i,v,u⟩:=List.mem_flatMap.1 u;have v:i<n:=by rw[<-en];exact List.mem_range.1 v
  cases d:cr i with
  |true=>rw[t.r.ND v d]at u;cases u
  |false=>
   have:=U i v d;have:=(t.r.a.m.y v f u k).2 (hv.trans (by rw[(T i v d).e,(T i v d).z,(j i v d).1]));omega
 let⟨g,g1,X,g3,g4,g5,g6,g7⟩:=(T q m d).a.g (T q m d).net (T q m d).j h.a.g.2 m d (j q m d).2.2 (T q m d).z ν (D q m d) (H f u) k.2.2.1 k.2.2.2.2.2 (by rw[k.2.1,(j q m d).2.1];grind) (by rw[(j q m d).1];exact k.2.2.2.1) k.2.2.2.2.1 (.inl k.1);rw[if_pos k.1]at X;exact⟨g,tC h m g1,X,g3,g4.trans k.2.1,g5.trans (j q m d).1,g6,g7 l k.2.1 W.symm⟩;let⟨g,g1,X,g3,g4,g5,g6,g7⟩:=(T q m d).a.g (T q m d).net (T q m d).j h.a.g.2 m d (j q m d).2.2 (T q m d).z ν (D q m d) (H f u) k.2.2.1 k.2.2.2.2.2 (by rw[k.2.1,(j q m d).2.1];grind) (by rw[(j q m d).1];exact k.2.2.2.1) k.2.2.2.2.1 (.inr k.1);rw[if_neg (by rw[k.1];decide)]at X;exact⟨g,tC h m g1,X,g3,g4.trans k.2.1,g5.trans (j q m d).1,g6,g7 l k.2.1 W.symm⟩;have:=(w4 f (H f u) k.2.2.1 k.2.2.2.2.2 (by rw[(j l w o).1];exact k.2.2.2.1) (by rw[k.2.1,(j l w o).2.1];grind) k.2.2.2.2.1 (by rw[k.2.1,<-P.asked];grind)).1 k.1 hg;rw[k.2.1]at this;exact this;have:=(w4 f (H f u) k.2.2.1 k.2.2.2.2.2 (by rw[(j l w o).1];exact k.2.2.2.1) (by rw[k.2.1,(j l w o).2.1];grind) k.2.2.2.2.1 (by rw[k.2.1,<-P.asked];grind)).2 k.1 hg;rw[k.2.1]at this;exact this
theorem PW{x:Int}(g:l<6)(h:aV x l=true)(m:∀r,r<l->aV x r=false):Ik x=l:=by
 have c:=eX.2 ⟨g,h⟩;have d:(iX x 6).Pairwise _:=List.Pairwise.filter _ List.pairwise_lt_range;unfold Ik;match e:iX x 6 with
 |[]=>grind
 |y::t=>
  rw[e]at c d;simp only[List.headD_cons];rcases List.mem_cons.1 c with k|k;omega;have j:=List.rel_of_pairwise_cons d k;have a:=m y j;rw[(eX.1 (show y∈iX x 6 by grind)).2]at a;cases a
def Tn.d(T:Tn cr n G (bp cr n n G) i)(a:Wf S)(j:Dn cr S.k)(g:wy ((bp cr n n G).b i) S)(d:S.b=((bp cr n n G).b i).b)(q:Nat):aV S.k q=(aV S.m q&&cr q):=by
 cases e:aV _ q with
 |true=>
  have h:=gn a.sus a.mem q;rw[a.h.1,e]at h;rw[j q e];grind
 |false=>
  symm;refine Bool.eq_false_iff.2 λc=>?_;rw[Bool.and_eq_true,g.mem d]at c;have:=g.sus d q (T.sus q c.1 c.2);grind
def Tn.h{H:Grp}(T:Tn cr n G H i):(H.b i).b=(G.b i).b/\(H.b i).m=(G.b i).m/\(H.MU.b i).b=(G.b i).b/\(H.MU.b i).m=(G.b i).m/\((G.bc cr).b i).b=(G.b i).b/\((G.bc cr).b i).m=(G.b i).m:=by
 have a:(H.b i).b=(G.b i).b/\(H.b i).m=(G.b i).m:=by rw[T.st];exact⟨rfl,rfl⟩
 have:=T.z;have:=T.g.mem this;rw[T.t,T.e];grind
def PB.d(s:NY cr G L)(h:dY n win 4000 G cr)(v:l<n)(m:cr l=false)(Y:∀r,r<l->cr r=true)(eq:∀i,i<n->cr i=false->(G.b i).b=V/\(G.b i).m=M)(a1:∃c,aV M c=true/\cr c=true)(f0:Of cr n G)(f1:Of cr n (G.bc cr)):∃b B,PB cr n V M l b B ((G.bc cr).bc cr) (bp cr n n (G.bc cr)).LQ:=by
 have r1:=h.Is;have r2:=r1.Is;have s1:=s.a h f0;have X:=h.NX;have F:=r1.NX;have A:=λi d j=>f0.a h (i:=i) d j;have y:=λi d j=>f1.a r1 (i:=i) d j;have e0:∀i,i<n->cr i=false->((bp cr n n G).MU.b i).b=V:=λi d j=>by have:=(A i d j).h;grind
 have e1:∀i,i<n->cr i=false->((G.bc cr).b i).b=V/\((G.bc cr).b i).m=M:=λi d j=>by have:=(A i d j).h;grind
 have H:∀i,i<n->cr i=false->((bp cr n n (G.bc cr)).b i).b=V/\((bp cr n n (G.bc cr)).b i).m=M:=λi d j=>by have:=(y i d j).h;grind
 have e2:∀i,i<n->cr i=false->(((G.bc cr).bc cr).b i).b=V/\(((G.bc cr).bc cr).b i).m=M/\((bp cr n n (G.bc cr)).MU.b i).b=V:=λi d j=>by have:=(y i d j).h;grind
 have o:=y l v m;obtain⟨X0,-,-,-,-,up⟩:=o.a.k v m;have a0:∀q,q<n->cr q=false->aV M q=true:=λq hq j=>by rw[<-(H l v m).2];exact up q hq j
 have T:∀i,i<n->cr i=false->((bp cr n n (G.bc cr)).b i).g<=((bp cr n n (G.bc cr)).MU.b l).g:=λi d j=>by
  by_cases e:i=l
  subst e;have:=o.g.j o.z;grind[Tn.e];have w:=X.r.P9 d j;let⟨g1,g2⟩:=w.a (X.r.NH d j) v m λe'=>e e'.symm;have n1:=s1.d (tC h d g1);have:=o.a.w o.net v m o.z (K8 ((bp cr n n G).MU.b i) l) (by rwa [F.sus.net]) rfl (.inl rfl) (by rw[(H l v m).1];exact e0 i d j) (by show aV _ (((bp cr n n G).MU.b i).c:Int).toNat=true;grind[Qi.num]) g2
  rw[<-o.e]at this;rw[(y i d j).st];show ((G.bc cr).b i).g<=_;rwa [(A i d j).t]
 have Q:∀f,ga (bp cr n n (G.bc cr)).a f->kb f->f.h=V->f.a<=((bp cr n n (G.bc cr)).MU.b l).g:=λf x k K=>by
  obtain⟨i,d,hm⟩:=List.mem_flatMap.1 (s1.r (by rwa [<-F.sus.net]));have d:i<n:=by rw[<-X.r.a.n];exact ν
  cases j:cr i with
  |true=>rw[X.r.ND d j]at hm;cases hm
  |false=>
   have a:=(X.r.a.m.y d f hm k).2 (K.trans (e0 i d j).symm);have c:=T i d j;rw[(y i d j).st]at c;grind[Tn.t]
 have R:∀i,i<n->cr i=false->((bp cr n n (G.bc cr)).MU.b i).g<=((bp cr n n (G.bc cr)).MU.b l).g:=λi d j=>by have u:=y i d j;by_cases e:i=l;subst e;exact ϭ;have Z:l<i:=ν;obtain⟨O,a,g,W,v3,p3⟩:=u.a.h u.net d (T i d j) u.z λf x _ k K _ _=>Q f x k ν;rw[u.e,W];rcases N4 (a.c d).1 (a.b d j)with k|⟨k,-⟩;omega;rw[(a.d d j Z m).1]at k;cases k
 obtain⟨O,a,g,W⟩:=o.a.e (R:=wy) v o.net wy.c (λ_ _ _=>wy.a) λS f h _ x _=>dm h v x;obtain⟨X1,-,ls,pf,ab,-⟩:=a.l v m;have N:=ls.a;have c1:=ls.num;have gt:=iE N;have hz:=o.z;have v1:=g.g;have v2:=gt.g;rw[W]at hz;have U:O.b=((bp cr n n (G.bc cr)).b l).b:=ω;have P:O.m=M:=(g.mem U).trans (H l v m).2;have D3:=o.d N pf.sus g U;have l6:l<6:=by have:=h.a.g;omega
 have E:O.M4=true:=by
  unfold PS.M4;rw[Bool.and_eq_true,decide_eq_true_eq,decide_eq_true_eq];constructor
  .intro e;let⟨c,c3,c4⟩:=a1;simp_all[aV]
  grind[PW,lX,Wf.mem,Wf.sus]
 have a2:O.g<2147483640:=by
  by_cases c:0<O.g
  have hH:=ls.x.f _ _ (pf.prom c);omega;omega
 let⟨B,b1,b2⟩:=Pb N ab E a2;rw[<-W,<-o.e]at b1 b2;obtain⟨X2,-,-,I,-⟩:=r2.pj v m;have D:(((G.bc cr).bc cr).b l).d=some B:=by rwa [o.t]
 have lf:=I.lead B D;have C:(((G.bc cr).bc cr).b l).g=((bp cr n n (G.bc cr)).MU.b l).g:=by rw[o.t]
 refine⟨((bp cr n n (G.bc cr)).MU.b l).g,B,⟨λi d j=>⟨(e2 i d j).1,(e2 i d j).2.1,by rw[(y i d j).t];exact R i d j⟩,λf x k K=>?_,D,lf.num.trans C,C,λq=>?_⟩⟩
 .let⟨i,d,x⟩:=List.mem_flatMap.1 x;have d:i<n:=by rw[<-F.r.a.n];exact List.mem_range.1 d
  cases j:cr i with
  |true=>rw[F.r.ND d j]at x;cases x
  |false=>
   have:=R i d j;have:=(F.r.a.m.y d f x k).2 (K.trans (e2 i d j).2.2.symm);omega
 obtain⟨X3,-,hw,fw,-⟩:=F.r.a.m.k v m;rw[b2,o.d hw.a fw.sus (by rw[o.e];exact o.g) (by rw[o.e];exact o.z) q];have:=o.h;grind
def PU(s:NY cr G L)(h:dY n win 4000 G cr)(j:l<n)(a:cr l=false)(k:∀r,r<l->cr r=true)(P:∀i,i<n->cr i=false->(G.b i).b=V/\(G.b i).m=M)(Q:∃c,aV M c=true/\cr c=true)(a0:ir M<2*Ed cr n)(f0:Of cr n G)(f1:Of cr n (G.bc cr))(f2:Of cr n ((G.bc cr).bc cr))(f3:Of cr n (((G.bc cr).bc cr).bc cr))(f4:Of cr n ((((G.bc cr).bc cr).bc cr).bc cr))(f5:Of cr n (((((G.bc cr).bc cr).bc cr).bc cr).bc cr)):False:=by
 have T:=h.Is;have s1:=s.a h f0;let⟨b,B2,p2⟩:=PB.d s h j a k P Q f0 f1;have s2:=s1.a T f1;have a2:=p2.c T j a;generalize G.bc cr=G1 at*;have K:=T.Is;have F:=K.Is;have s3:=s2.a K f2;let⟨B3,p3,l3,k3⟩:=p2.a s2 K j a k f2;have v:=F.Is;have s4:=s3.a F f3;let⟨z,w,l4,k4⟩:=p3.a s3 F j a k f3;have a4:=w.c F j a;let⟨B5,p5,l5,k5⟩:=w.a s4 v j a k f4;have r5:=v.Is;have s5:=s4.a v f4;let⟨B6,p6,l6,k6⟩:=p5.a s5 r5 j a k f5;have r6:=r5.Is;have o:∀{G:Grp}{L:List Frame}{B:Bal},dY n win 4000 G cr->PB cr n V M l b B G L->Wf (G.b l)/\(G.b l).c=l/\(G.b l).out=false/\GB (G.b l) B/\(B.e=true->N6 B.c B.a):=λ{G L B}r p=>by obtain⟨X,-,E,J,O,-⟩:=r.pj j a;have O:=(Bo O).2;exact⟨E.a,E.num,O,r.gj l j O B p.lead,λg=>((J.lead B p.lead).gath g).2.1⟩
 have H:∀{G:Grp}{L:List Frame}{B:Bal}{A:Int},dY n win 4000 G cr->PB cr n V M l b B G L->Up cr n A->(G.b l).Nj A=true:=λ{G L B A}r p hA=>by unfold PS.Nj;have:=OQ hA h.a.g.2;rw[(p.e l j a).2.1];grind
 have m:z.e=false:=by
  refine Bool.eq_false_iff.2 λm=>?_;obtain⟨E,C,-,y,I⟩:=o v w;have g3:=(l4.answ m).1;have g2:=(l3.answ g3).1;have Y:Up cr n z.c:=λq t u=>by
   by_cases e:q=l
   subst e;have:=(y.1 m).2;grind;cases c:aV B2.c q with
   |true=>exact(l4.answ m).2 q ((l3.answ g3).2 q c)
   |false=>
    grind
  have bw:=E.lead z w.lead;have P:=bw.answ.e bw.asked λq=>by
   cases c:aV z.a q with
   |true=>
    have R:=c;rw[a4.1,Bool.and_eq_true]at R;exact Y q (v.Pf j a (by rw[(w.e l j a).2.1];exact R.1)) ν
   |false=>
    refine Bool.eq_false_iff.2 λx=>?_;rw[I m q x]at c;cases c
  have:=(y.1 m).1;rw[H v w Y,P]at this;simp at this
 obtain⟨E,C,-,y,-⟩:=o r6 p6;have N:=(l5.acc m).1;have g6:=(l6.acc N).1;have Y:Up cr n B6.d:=λq t u=>by
  by_cases e:q=l
  subst e;have:=(y.2 g6).2;rw[C]at this;exact this;cases c:aV z.d q with
  |true=>exact(l6.acc N).2 q ((l5.acc m).2 q c)
  |false=>
   let⟨f,U,kf⟩:=(a4.2 q t u e).2 m c;let⟨g,W,Z⟩:=(k5 q t u e).2.1 f U kf;exact(k6 q t u e).2.2.2 g W Z N
 have:=(y.2 g6).1;grind
end
section
open Codec (Msg Frame aA aK cd)
variable {S T U:PS}{f:Frame}{B:Bal}{m k:Int}{s:Nat}{cut:Υ}
def NS(S:PS):Prop:=∀m∈S.o,S.Nh m=false
def L4(S:PS):NS S.M1:=λm a=>by have:=(List.mem_filter.1 a).2;show S.Nh m=false;grind
def NS.a(h:NS S)(b:T.o=S.o)(c:T.q=S.q)(d:T.m=S.m):NS T:=λm a=>by rw[b]at a;have:=h m a;grind[PS.Nh]
def Sends.ns{k:Nat}(a:Sends S T k)(h:NS S):NS T:=h.a a.i (by rw[a.e]) a.a.j
def NS.h(h:NS S)(m:Msg):NS (S.MX m):=by
 unfold PS.MX;split;exact h;rename_i c
 simp only[Bool.or_eq_true,not_or,Bool.not_eq_true]at c;intro x a;rcases List.mem_append.1 a with a|a;exact h x a;rw[List.mem_singleton.1 a];exact c.1.2
def NS.c(h:NS S)(l:List Msg):NS (S.Mc l):=fT l S (λ_ m _ a=>a.h m) h
def NS.b:∀(k:Nat){S:PS}(cut:Υ),NS S->NS (PS.Mt k S cut)
 |0,_,_,h=>h
 |k+1,S,cut,h=>by rw[PS.Mt];split;exact h;exact NS.b k cut (L4 _)
def NS.install(h:NS S):NS (S.install m cut):=by
 have k:=NS.b 121 cut h;unfold PS.install;split;exact nofun
 exact k.a rfl rfl rfl
def NS.installIf(h:NS S)(B:Bal):NS (S.installIf B):=by unfold PS.installIf;split;let⟨k,a⟩:=df S;exact(a.ns h).install;exact h
def NS.g(h:NS S)(B:Bal):NS (S.MA B):=by unfold PS.MA;split;obtain⟨k,a⟩:=bo {S with d:=some _,a:=B.b} _;exact(a.ns (h.a rfl rfl rfl)).installIf _;exact h
def NS.e(h:NS S)(f:Frame):NS (S.MW f):=by
 have a:NS (S.My f.f.toNat f.g):=L4 _;unfold PS.MW;split;exact h;split;unfold PS.MM;split;exact h;exact(ak S _).ns h;split
 .unfold PS.L9;split;have p:=a.h (f.d.headD ⟨0,0,[],⟨#[]⟩⟩);show NS (if (PS.MX _ _).h then _ else _);split;exact p;exact p.b 121 _;split;show NS (if (S.My _ _).g<f.a then (S.My _ _).MH _ else S.My _ _);split;exact a.a rfl rfl rfl;exact a;split;unfold PS.MR;split;exact h;exact(ak _ _).ns (h.a rfl rfl rfl);split
  .unfold PS.Mv;split;exact h;split
   .rename_i B _ _
    exact NS.g (S:={(S.My _ _).Mc _ with d:=some (B.f f.f.toNat (f.g,⟨f.e,f.b,f.i⟩))}) ((a.c f.d).a rfl rfl rfl) _
   exact h
  split;unfold PS.MK;split;exact h;exact(ak _ _).ns (NS.c (S:={S.Mx f.a with a:=⟨f.a,f.b,f.i⟩}) (h.a rfl rfl rfl) f.d);split
  .unfold PS.Mk;split;exact h;split
   .rename_i B _ _
    exact NS.installIf (S:={S with d:=some {B with d:=j9 B.d (aO f.f.toNat)}}) (h.a rfl rfl rfl) _
   exact h
  split;exact(h.c _).install;exact h
 exact h
def NS.d(h:NS S)(s:Ϭ):NS (S.Mn s):=by unfold PS.Mn;split;exact h.e _;exact h
def NS.i(h:NS S)(b:Wf S):NS S.tick:=by
 rw[oB];split
 .apply (gW _ _).ns;unfold PS.Me;split
  .rename_i c
   simp only[Bool.and_eq_true]at c;rw[u2 b c.1.1];obtain⟨k,a⟩:=bA _ _;exact a.ns (h.a rfl rfl rfl)
  split;unfold PS.Mr;split;exact(bA S _).elim λ_ k=>k.ns h;exact(bo S _).elim λ_ k=>k.ns h;exact h
 exact h
def dY.ns{n win lim:Nat}{G:Grp}{cr:Book}(h:dY n win lim G cr):∀i,i<n->NS (G.b i):=
 h.PT (λi=>nofun) (λ_ h=>h.a rfl rfl rfl) (λS _ t _ h=>by
  unfold PS.cast;split;exact(bK _ 1 (λT q=>ak T _) _ _).ns (L4 _)
  .exact h) (λ_ l _ h=>h.d l) (λ_ w h=>h.i w) (λ_ h=>h.a rfl rfl rfl) λS q h=>by
  unfold PS.Mu;split;exact h.a rfl rfl rfl;exact h
def Og(S:PS)(s:Nat)(k:Int):Prop:=k<=S.Ml.getD s 0\/∃x∈S.o,x.a=s/\x.seq=k
def NT(a:Wf S)(c:aV S.m S.c=true){x:Msg}{s:Nat}(b:x.a=s)(h:S.Nh x=true):x.seq<=S.Ml.getD s 0:=by grind[PS.Nh,FP,Wf.a,Wf.num,PS.Ml]
def Og.b(h:Og S s k)(g:Wf S)(e:aV S.m S.c=true):Og S.M1 s k:=by rcases h with h|⟨x,d,b,a⟩;exact .inl h;cases c:S.Nh x;exact .inr ⟨x,List.mem_filter.2 ⟨d,ν⟩,b,a⟩;exact .inl (by have:=NT g e b c;rwa [a]at this)
def Og.c(h:Og S s k)(b:Wf S)(i:aV S.m S.c=true){q:Nat}(c:q<S.n)(a:q≠S.c){r:Υ}(d:∀x∈r,0<=x/\x<=20):Og (S.My q r) s k:=by
 refine Og.b ?_ ?_ i;rcases h with h|h;left;have:=KC S a r;show k<=(S.My q r).Ml.getD s 0;grind;exact .inr h;refine b.a6 ?_ λe=>absurd e a;have g:S.q.getD q []∈S.q:=by rw[show S.q.getD q []=S.q[q]'(by grind[Wf.a]) by grind];exact ς
 exact(b.kn _ g).a d
def Po(S:PS)(m:Msg):∀x∈S.o,x∈(S.MX m).o:=λx hx=>by unfold PS.MX;grind
def Og.d(h:Og S s k)(m:Msg):Og (S.MX m) s k:=h.imp (λh=>by rwa [Ki]) λ⟨x,a,e⟩=>⟨x,Po S m x a,e⟩
def Pn(h:Wf S)(g:aV S.m S.c=true){m:Msg}{s:Nat}(a:m.a=s)(b:aV S.m s=true):Og (S.MX m) s m.seq:=by
 unfold PS.MX;split
 .rename_i c
  rw[Bool.or_eq_true,Bool.or_eq_true]at c;rcases c with (c|c)|c;let⟨x,d,e⟩:=List.any_eq_true.1 c;simp only[eA,Bool.and_eq_true,beq_iff_eq]at e;exact .inr ⟨x,d,e.1.trans a,e.2⟩;exact .inl (NT h g a c);grind
 exact .inr ⟨m,List.mem_append_right _ (List.mem_singleton.2 rfl),a,rfl⟩
def Og.a{s:Nat}{k:Int}:∀(j:Nat){S:PS}(cut:Υ),Wf S->aV S.m S.c=true->Og S s k->Og (PS.Mt j S cut) s k
 |0,_,_,_,_,h=>h
 |j+1,S,cut,a,c,h=>by
   rw[PS.Mt];split;exact h;rename_i m e
   obtain⟨g,q,b,d,i,-⟩:=dy e;have w:=(a.k b d i (a.ms m g).a 2).1;refine Og.a j cut w.j c (Og.b ?_ w c);rcases h with h|h;left;rw[rE a d 2,u4 (by rwa [a.g.1])];grind;exact .inr h
end
section
open Codec (Msg Frame aA aK cd)
variable {cr:Book}{X:Gh}{n win i:Nat}{S T U:PS}{f:Frame}{st:Nat->PS}{N:Frame->Prop}{net:List (Int×ϝ)}{V M:Int}{G:Grp}{L:List Frame}
def Oz(cr:Book)(n:Nat)(st:Nat->PS)(V M:Int):Prop:=∀i,i<n->cr i=false->(st i).b=V/\(st i).m=M
def LS.b(l:LS X cr n i S)(b:PJ X cr n i S)(y:∀q,aV S.m q=true->cr q=false):S.g=0/\S.h=false/\S.d=none/\S.k=0/\∀x,¬X.f S.b x:=by
 have a:=l.a;have k:∀x,¬X.f S.b x:=λx r=>by obtain⟨-,-,-,-,-,-,c,o,z⟩:=l.x.f _ _ r;rw[<-b.mem]at o;grind
 have w:S.g=0:=
  have:=a.prom.1
  Classical.byContradiction λc=>k S.g (b.prom ω)
 refine⟨w,?_,?_,a.sus.e .b λq=>?_,k⟩;cases e:S.h;rfl;have:=b.p e;omega;rcases e:S.d with _|B;rfl;have l:=b.lead B e;have:=l.e;have:=l.num;omega;cases e:aV _ q;simp[aV];have j:=gn a.sus a.mem q;rw[a.h.1,e]at j;have:=b.sus q e;grind
def Oz.a(a:Oz cr n st V M)(g:S.b=V)(d:S.m=M):Oz cr n (tl st i S) V M:=λj c b=>by
 by_cases e:j=i
 grind[jg]
 rw[NW e];exact a j c b
def SI.c(s:SI X cr n st N)(x:n<=6)(a:Oz cr n st V M)(u:∀q,aV M q=true->cr q=false){i:Nat}(j:i<n)(m:cr i=false)(E:N f)(y:f.c=7):f.h≠V:=λH=>by
 have v:=(s.a f E).2;have p:∀q,q<n->cr q=false->PJ X cr n q (st q):=λq d e=>(s.b q d).c (by have:=(s.b q d).out;grind);have J:=p i j m;have t:X.a n V=M:=by rw[<-(a i j m).1,<-J.mem];exact(a i j m).2
 obtain⟨b,Q,o,-⟩:=s.x.g _ _ (v.c y);rw[(show ((f.h.toNat:Nat):Int)=V by have:=v.k.1;omega)]at o;obtain⟨w,r,⟨z,D⟩,A,-⟩:=s.x.e _ _ _ o;obtain⟨q,l⟩:∃q,aV w q=true:=by refine Classical.byContradiction λc=>?_;grind[ir,iX,List.filter_eq_nil_iff,P7]
 have g:=z q l;rw[t]at g;have e:=u q g;have d:=s.x.o x _ rfl J.a (q:=q) (by rwa [(a i j m).1,t]);have F:=p q d e;have:=(F.an _ _ _ _ (A q l).1).2 (a q d e).1.symm;have O:=((s.b q d).b F (by rwa [(a q d e).2])).1;have:=(s.x.f _ _ (s.x.a _ _ _ o).1).1;omega
def OW(n:Nat):Υ:=List.replicate n 20
structure CR(V M:Int)(i n:Nat)(S T:PS):Prop where
 g:wy S T
 b:T.b=V
 mem:T.m=M
 a:∀s k,Og S s k->Og T s k
 c:T.Ml.getD i 0=S.Ml.getD i 0
 e:S.Mh (OW n)=none->T.Mh (OW n)=none
theorem Oi:∀{l:List Msg},Mo.gv l->∀{x y:Msg},x∈l->y∈l->x.a=y.a->x.seq=y.seq->x=y
 |z::l,h,x,y,d,c,j,e=>by
   have g:=List.pairwise_cons.1 h;rcases List.mem_cons.1 d with a|a<;>rcases List.mem_cons.1 c with b|b;rw[a,b];grind;grind
   exact Oi g.2 a b j e
theorem Pi{l a:List Msg}(c:∀m∈a,m∈l)(d:Mo.gv l){s k:Int}{m:Msg}(h:a.find? (eA s k)=some m):l.find? (eA s k)=some m:=by have o:=c m (List.mem_of_find?_eq_some h);have g:=List.find?_some h;simp only[eA,Bool.and_eq_true,beq_iff_eq]at g;rcases e:l.find? _ with _|x;grind;have b:=List.mem_of_find?_eq_some e;have j:=List.find?_some e;simp only[eA,Bool.and_eq_true,beq_iff_eq]at j;grind[Oi]
def KN{a:Υ}:∀(k:Nat){S:PS},Wf S->fI S.Ml<k->(PS.Mt k S a).Mh a=none
 |0,_,_,h=>(by omega)
 |k+1,S,b,h=>by
   rw[PS.Mt];split;omega;rename_i m e
   obtain⟨g,s,c,j,l,-⟩:=dy e;have d:=b.k c j l (b.ms m g).a 2;apply KN k d.1.j;have:fI (S.Ms m 2).M1.Ml=fI (S.Ms m 2).Ml:=rfl;omega
def Oo(c:∀m∈T.o,m∈S.o)(j:Mo.gv S.o)(b:T.Ml=S.Ml)(g:T.n=S.n){d:Υ}(h:S.Mh d=none):T.Mh d=none:=by unfold PS.Mh at*;rw[List.findSome?_eq_none_iff]at*;intro q a;rcases e:T.M9 d q with _|m;rfl;grind[PS.M9,Option.filter_eq_some_iff,Pi]
def SF.s(h:SF cr n (tl st i S) N)(hn:n<=6)(w:i<n)(hu:cr i=false)(a:Oz cr n st V M)(hM:∀q,aV M q=true->cr q=false)(u:S.b=V)(t:S.m=M)(ft:FT S)(hN:N f)(D:Codec.dg f=true):CR V M i n S (S.Mn (Codec.im f))/\(na f i n=true->f.h=V->aV M f.f.toNat=true->(f.c=1->(∀m,f.d=[m]->∀s:Nat,m.a=s->Og (S.Mn (Codec.im f)) s m.seq)/\(S.Mn (Codec.im f)).Mh (OW n)=none)/\(f.c=2->∀s,s<n->f.g.getD s 0<=((S.Mn (Codec.im f)).q.getD f.f.toNat []).getD s 0)):=by
 have g:=dm h w D;obtain⟨X,s,P,J,O,-⟩:=h.l w hu;have z:=P.a;have Z:=P.num;have c2:=P.d;let⟨p0,b0,l0,s0,no⟩:=P.b J (by rwa [t]);have a0:CR V M i n S S:=⟨.c S,u,t,λ_ _ k=>k,rfl,id⟩;by_cases hp:na f i n=true
 .have p:na f S.c S.n=true:=by rwa [Z,c2]
  have e:=og D O p;rw[e]at g|-;have r:=LB D p;have ff:=(s.a f hN).2;have K:aV S.m S.c=true:=Z▸J.c;have F:∀{T:PS},(∃k,Sends S T k)->wy S T->CR V M i n S T:=λ{T}⟨k,x⟩gT=>
   have I:T.Ml=S.Ml:=by rw[x.e];rfl
   ⟨gT,x.a.a.trans u,x.a.j.trans t,λ_ _ c=>by grind[Og,Sends.i],by rw[I],λc=>Oo (by rw[x.i];simp) ft.h I x.a.n c⟩
  have j:kb f->f.h≠V\/f.a<=0:=λk=>by
   by_cases c:f.h=V
   right;refine Classical.byContradiction λx=>no f.a ?_;rw[u,<-c];exact ff.e k ω;omega
  have a1:f.f≠S.c:=by have e2:=p;simp only[na,Bool.and_eq_true,bne_iff_ne,ne_eq]at e2;exact e2.1.1.1.1.1.1.2
  have d:f.f.toNat≠S.c:=by obtain⟨q,-,e⟩:=r.src;omega
  unfold PS.MW at g|-;by_cases h1:S.b<f.h;grind;rw[if_neg h1]at g|-;by_cases h2:f.h<S.b;rw[if_pos h2]at g|-;refine⟨F ?_ g,λ_ k=>ω⟩;unfold PS.MM;split;exact⟨0,.f S⟩;exact⟨1,ak S _⟩;rw[if_neg h2]at g|-;have l:f.h=V:=ω;by_cases h3:aV S.m f.f.toNat=true
  .rw[if_pos h3]at g|-;unfold PS.L9 at g|-;have wl:=z.i r.q r.row;have b:=dq S f.f.toNat f.g;have W:CR V M i n S (S.My f.f.toNat f.g):=⟨BN S _ _,b.a.trans u,b.j.trans t,λ_ _ c=>c.c z K r.q d r.row,by rw[KC S d],λc=>Oo (λm t=>(List.mem_filter.1 t).1) ft.h (KC S d _) b.n c⟩;by_cases Q:f.c=1
   .rw[if_pos Q]at g|-;let⟨r1,m,r2,r3⟩:=r.data (S:=S) Q;have hC:NC X n S.b m:=by have:=ff.o m ν;rwa [l,<-u]at this
    have eT:S.MQ f=((S.My f.f.toNat f.g).MX m).Mb (List.replicate ((S.My f.f.toNat f.g).MX m).n 20):=by unfold PS.MQ;rw[r2];show (if ((S.My f.f.toNat f.g).MX m).h then _ else _)=_;rw[(nc _ _).g,b.g,b0];rfl
    rw[eT]at g|-;have v:=nc (S.My f.f.toNat f.g) m;have nT:((S.My f.f.toNat f.g).MX m).n=n:=by rw[v.n,b.n,c2]
    rw[nT]at g|-;have B:Wf ((S.My f.f.toNat f.g).MX m):=wl.x (by grind[dh.n]);have A:aV ((S.My f.f.toNat f.g).MX m).m ((S.My f.f.toNat f.g).MX m).c=true:=by rwa [v.j,v.i,b.j,b.i]
    have hd:(((S.My f.f.toNat f.g).MX m).Mb (OW n)).Mh (OW n)=none:=by apply KN 121 B;have:=py B.g;rw[nT]at this;omega
    have C:=eh ((S.My f.f.toNat f.g).MX m) (OW n);refine⟨⟨g,C.a.trans (v.a.trans (b.a.trans u)),C.j.trans (v.j.trans (b.j.trans t)),λx y c=>Og.a 121 _ B A ((W.a x y c).d m),?_,λ_=>hd⟩,λ_ _ _=>⟨λ_=>⟨λm' E x ex=>?_,hd⟩,λc=>ω⟩⟩;obtain⟨X',-,y,x⟩:=LS.h 121 (OW n) ((P.a3 (r:=f.g) (c2▸r.q) (Z▸d) r.row λs a=>by have:=ff.row (.inl Q) s a;grind).e (l:=[m]) (λx k=>by rwa [List.mem_singleton.1 k,<-c2]) λx k=>by rwa [List.mem_singleton.1 k]) (v.out.trans (b.out.trans (Bo O).2));have o:=(x.c (C.out.trans (v.out.trans (b.out.trans (Bo O).2)))).row i w;have e:(((S.My f.f.toNat f.g).Mc [m]).Mb (OW n)).b=S.b:=C.a.trans (v.a.trans b.a);rw[show PS.b (PS.Mt 121 _ _)=_ from e]at o;rw[show ((S.My f.f.toNat f.g).Mc [m]).b=_ from v.a.trans b.a,J.row i w]at y;exact o.symm.trans y;have:m'=m:=by rw[r2]at E;injection E with E _;exact E.symm
    subst this;refine Og.a 121 _ B A (Pn wl (by rwa [b.j,b.i]) ex ?_);rw[b.j,J.mem];have:=hC.1;grind
   rw[if_neg Q]at g|-;by_cases R:f.c=2
   .rw[if_pos R]at g|-;have eT:S.ML f=S.My f.f.toNat f.g:=by unfold PS.ML;show (if (S.My f.f.toNat f.g).g<f.a then _ else _)=_;have:=(j (.inl R)).resolve_left λc=>c l;rw[if_neg (by grind[dh.l])]
    rw[eT];refine⟨W,λ_ _ _=>⟨λc=>ω,λ_ x hx=>?_⟩⟩;have hq:=r.q;show f.g.getD x 0<=((S.q.set f.f.toNat (dB (S.q.getD f.f.toNat []) f.g)).getD f.f.toNat []).getD x 0;rw[show (S.q.set f.f.toNat (dB (S.q.getD f.f.toNat []) f.g)).getD f.f.toNat []=dB (S.q.getD f.f.toNat []) f.g by grind[Wf.a]];have hk:S.q.getD f.f.toNat []∈S.q:=show S.q.getD f.f.toNat []=S.q[f.f.toNat]'(by grind[Wf.a]) by grind▸ς
    have:=(z.kn _ hk).1;grind[dB]
   rw[if_neg R]at g|-;by_cases H:f.c=3
   .exfalso
    have:=(j (.inr (.inl H))).resolve_left λc=>c l;have:=r.PG (.inl H);omega
   rw[if_neg H]at g|-;by_cases k4:f.c=4
   .simp_all[PS.Mv]
   rw[if_neg k4]at g|-;by_cases Y:f.c=5
   .exfalso
    have:=(j (.inr (.inr Y))).resolve_left λc=>c l;have:=r.PG (.inr (.inr Y));omega
   rw[if_neg Y]at g|-;by_cases k6:f.c=6
   .simp_all[PS.Mk]
   rw[if_neg k6]at g|-;by_cases k7:f.c=7;exact absurd l (s.c hn (a.a u t) hM w hu hN k7);grind
  grind
 grind[Ae]
variable {p s q:Nat}
def CR.d(h:CR V M i n S T)(k:CR V M i n T U):CR V M i n S U:=⟨h.g.a k.g,k.b,k.mem,λs x c=>k.a s x (h.a s x c),k.c.trans h.c,λc=>k.e (h.e c)⟩
structure CT(cr:Book)(n:Nat)(V M:Int)(H:Grp)(i:Nat)(S:PS):Prop where
 c:SF cr n (tl H.b i S) (ga H.a)
 cr:CR V M i n (H.b i) S
 e:H.MU.b i=S.tick
 s:∃k,Sends S S.tick k
 able:S.MC=0
 b:∀f,ga H.a f->f.j=i->na f i n=true->f.h=V->aV M f.f.toNat=true->(f.c=1->(∀m,f.d=[m]->∀s:Nat,m.a=s->Og S s m.seq)/\S.Mh (OW n)=none)/\(f.c=2->∀s,s<n->f.g.getD s 0<=(S.q.getD f.f.toNat []).getD s 0)
def dY.ct(h:dY n win 4000 G cr)(a:Oz cr n G.b V M)(hM:∀q,aV M q=true->cr q=false)(d:i<n)(l:cr i=false):∃S,CT cr n V M (Md.bp cr n n G) i S:=by
 have t:=h.NX;have Q:=t.r.sf;have A:=t.r.a.i.2;have C:Oz cr n (Md.bp cr n n G).b V M:=λj hj l=>t.sus.st j▸a j hj l;have u:=t.r.ft i d
 let R:=λS T=>S.b=V->S.m=M->FT S->CR V M i n S T/\FT T
 have hr:∀S,R S S:=λS v m u=>⟨⟨.c S,v,m,λ_ _ k=>k,rfl,id⟩,u⟩;have ht:∀S T U,R S T->R T U->R S U:=λS T U x y v m u=>
  let ⟨D,W⟩:=x v m u
  let ⟨P,B⟩:=y D.b D.mem W
  ⟨D.d P,B⟩
 have Z:∀S f,SF cr n _ _->ga (Md.bp cr n n G).a f->Codec.dg f=true->f.j=i->R S _:=λS f b hN z _ v m u=>⟨(b.s h.a.g.2 d l C hM v m u hN z).1,u.c _⟩;let⟨p,b,g,e⟩:=Q.e d A hr ht Z;let⟨c1,c2⟩:=g (C i d l).1 (C i d l).2 u;obtain⟨X,-,P,J,H,-⟩:=b.l d l;obtain⟨p0,b0,l0,s0,-⟩:=P.b J (by rwa [c1.mem]);have a5:p.Me=p:=by unfold PS.Me;rw[if_neg (by grind[PS.M4]),l0]
 let⟨k,F⟩:=pO H;rw[a5]at F;refine⟨p,b,c1,e,⟨k,F⟩,H,λf z hd hp hv hm=>?_⟩;let⟨S1,w,a1,b1,b3,a4,e4⟩:=Q.at d A hr ht Z z hd;let⟨D,W⟩:=b1 (C i d l).1 (C i d l).2 u;let⟨P,B⟩:=a1.s h.a.g.2 d l C hM D.b D.mem W z z.1;obtain⟨E,z2⟩:=b3 P.b P.mem (W.c _);have q:=B hp hv hm;obtain⟨X,-,P,J,O,-⟩:=a4.l d l;obtain⟨-,a6,a2,a0,-⟩:=P.b J (by rwa [E.mem]);have K:w.Me=w:=by unfold PS.Me;rw[if_neg (by grind[PS.M4]),a2]
 let⟨k4,o⟩:=pO O;rw[K]at o;have Y:=e.symm.trans e4;have ms:p.o=w.o:=by rw[<-F.i,<-o.i,Y]
 have kn:p.q=w.q:=by rw[<-(by rw[F.e]:p.tick.q=p.q),<-(by rw[o.e]:w.tick.q=w.q),Y]
 have nn:p.n=w.n:=by rw[<-F.a.n,<-o.a.n,Y]
 have I:p.Ml=w.Ml:=by unfold PS.Ml;rw[kn,(by rw[<-F.a.i,<-o.a.i,Y]:p.c=w.c)]
 refine⟨λk=>⟨λm em s es=>?_,?_⟩,λk s Z=>?_⟩;have:=E.a s _ ((q.1 k).1 m em s es);grind[Og]
 .have:=E.e (q.1 k).2;simp_all[PS.Mh,PS.M9]
 rw[kn];exact Int.le_trans (q.2 k s Z) (E.g.kn (by grind[CR.b]) _ _)
def CT.a{H:Grp}(h:CT cr n V M H i S):(H.MU.b i).b=V/\(H.MU.b i).m=M/\(H.MU.b i).Ml=S.Ml/\(H.MU.b i).q=S.q/\(H.MU.b i).o=S.o:=by let⟨k,a⟩:=h.s;rw[h.e];exact⟨a.a.a.trans h.cr.b,a.a.j.trans h.cr.mem,by rw[a.e];rfl,by rw[a.e],a.i⟩
def dY.Pe(h:dY n win 4000 G cr)(a:Oz cr n G.b V M)(j:∀q,aV M q=true->cr q=false):Of cr n G/\Oz cr n (G.bc cr).b V M:=
 have b:Oz cr n (G.bc cr).b V M:=λi d e=>by let⟨S,c⟩:=h.ct a j d e;rw[ln h d];exact⟨c.a.1,c.a.2.1⟩
 ⟨λi d e=>(b i d e).1.trans (a i d e).1.symm,b⟩
def dY.OK(h:dY n win 4000 G cr)(a:Oz cr n G.b V M)(w:∀q,aV M q=true->cr q=false)(g:p<n)(k:cr p=false)(d:s<n):(aV M s=true->(G.b p).Ml.getD s 0<=(G.b s).Ml.getD s 0/\∀m∈(G.b p).o,m.a=s->m.seq<=(G.b s).Ml.getD s 0)/\(aV M s=false->(G.b p).Ml.getD s 0=0)/\(∀m∈(G.b p).o,m.a=s->aV M s=true):=by
 obtain⟨X,o,P,J,-⟩:=h.pj g k;have e:=(a p g k).1;have D:X.a n V=M:=by rw[<-e,<-J.mem];exact(a p g k).2
 have r:=J.row s d;rw[e]at r;have x:=P.x.le V p s;have y:aV M s=true->X.d V s s=(G.b s).Ml.getD s 0:=λy=>(a s d (w s y)).1▸(o.d d (w s y)).row s d;have j:∀m∈(G.b p).o,NC X n V m:=e▸J.ms;refine⟨λc=>⟨by grind,λm b e=>?_⟩,λc=>?_,λm b e=>?_⟩;have:=(j m b).2.2.1;grind;have:=P.x.mb V s (D▸c);have:=P.x.c0 V p s;omega;have:=(j m b).1;grind
def LS.m(P:LS X cr n i S)(o:S.out=false)(A:S.Mh (OW n)=none)(D:∀s:Nat,s<n->∀k:Int,S.Ml.getD s 0<k->k<=X.d S.b q s->∃m∈S.o,m.a=s/\m.seq=k):∀(N s:Nat)(k:Int),s<n->S.Ml.getD s 0<k->k<=X.d S.b q s->X.k S.b s k<N->False:=by
 intro N;induction N with
 |zero=>omega
 |succ N E=>
  intro s k y F h I;have x:=P.x;have w:=P.a;have Q:=(w.g.at (q:=s) (by rwa [P.d])).1;obtain⟨B,r⟩:=x.tm _ s k ω (Int.le_trans h (x.le _ q s));by_cases e:S.Ml.getD s 0+1=k
  .have C:=List.findSome?_eq_none_iff.1 A s (List.mem_range.2 (by rwa [P.d]));unfold PS.M9 at C;rcases f:S.o.find? (eA s k)with _|z;grind [eA,List.find?_eq_none];have b:=List.mem_of_find?_eq_some f;have c:=List.find?_some f;simp only[eA,Bool.and_eq_true,beq_iff_eq]at c;have g:=((P.c o).ms z b).2.2.2.1;rw[c.1,c.2,Int.toNat_natCast]at g;have O:aR (OW n) z=true:=by unfold aR OW;rw[c.1,Int.toNat_natCast];simp[y];exact(w.ms z b).a
   have K:Hk S.Ml z.c s=true:=by
    unfold Hk;rw[List.all_eq_true];intro t l;have l:t<n:=by rw[<-P.d,<-w.g.1];exact(by grind)
    refine Classical.byContradiction λj=>?_;simp only[Bool.or_eq_true,decide_eq_true_eq,not_or]at j;have H:=(w.g.at (q:=t) (by rwa [P.d])).1;have u:=r t j.1 (z.c.getD t 0) ω (by grind);have v:=x.cl _ q s k ω h t j.1;rw[g]at v;exact(by grind)
   grind
  have:=B (k-1) ω ω;grind
def NY.g(s0:NY cr G L)(h:dY n win 4000 G cr)(a:Oz cr n G.b V M)(hM:∀q,aV M q=true->cr q=false)(o:p<n)(u:cr p=false)(d:q<n)(b:cr q=false)(hs:s<n):((G.bc cr).b q).Ml.getD s 0<=(((G.bc cr).bc cr).b p).Ml.getD s 0:=by
 let⟨f0,l⟩:=h.Pe a hM;have W:=h.Is;have s1:=s0.a h f0;let⟨U,v⟩:=W.ct l hM o u;have t0:=h.NX;have H:=W.NX;rw[(show (((G.bc cr).bc cr).b p).Ml=U.Ml by rw[ln W o];exact v.a.2.2.1)];have a4:∀j,((bp cr n n (G.bc cr)).b j).Ml=((G.bc cr).b j).Ml:=λj=>by rw[H.sus.st j];rfl
 have E:∀x,((G.bc cr).b p).Ml.getD x 0<=U.Ml.getD x 0:=λx=>by have:=v.cr.g.kn (by rw[v.cr.b,H.sus.st p];exact(l p o u).1.symm) p x;obtain⟨wf,c1,-⟩:=v.c.c o;obtain⟨X,-,P,-⟩:=H.r.pj o u;have P:=P.num;grind[PS.Ml]
 by_cases a6:q=p
 grind
 obtain⟨X,sI,Q,Jq,-,b5⟩:=W.pj d b;have Jp:=sI.d o u;rw[(l q d b).2]at b5;obtain⟨S,eS,b6,-⟩:=t0.r.NH d b;have w:=t0.r.P9 d b;have et:=ln h d;have b3:((bp cr n n G).MU.b q).h=false:=by have:=(Q.b Jq (by rwa [(l q d b).2])).2.1;rwa [et]at this
 have B:∀x,x<n->∀k:Int,1<=k->k<=((G.bc cr).b q).Ml.getD x 0->k<=((G.bc cr).b p).Ml.getD x 0\/(∃m:Msg,m.a=x/\m.seq=k/\NF ((bp cr n n G).MU.b q) p m∈(bp cr n n G).LQ):=λx D k k1 k2=>by
  have r:=Jp.row x D;rw[(l p o u).1]at r;rcases Jq.g x D k k1 k2 with ⟨m,R,m2,O⟩|gd
  .have a8:=Jq.kn p o x D;by_cases c:(((G.bc cr).b q).q.getD p []).getD x 0<k
   .right;refine⟨m,m2,O,tC h d ?_⟩;have hi:=w.b;have b4:=w.c;have a3:=w.num;have hb:=b3;have a0:m∈((bp cr n n G).MU.b q).o:=by rwa [et]at R
    have hl:((bp cr n n G).MU.b q).Nl p m=true:=by unfold PS.Nl;rw[m2,O,Int.toNat_natCast];rw[et]at c;exact decide_eq_true c
    have Z:aV ((bp cr n n G).MU.b q).m p=true:=by have:=(l q d b).2;rw[et]at this;have this:=this;rw[this];exact b5 p o u
    grind[Pa]
   left;rw[(l q d b).1]at a8;omega
  left;have:=gd p o (by rw[(l q d b).2];exact b5 p o u);rw[(l q d b).1]at this;omega
 have hv:((bp cr n n G).MU.b q).b=V:=by have:=(l q d b).1;rwa [et]at this
 have Y:∀m:Msg,∀x:Nat,m.a=x->NF ((bp cr n n G).MU.b q) p m∈(bp cr n n G).LQ->Og U x m.seq/\U.Mh (OW n)=none:=λm x ex hm=>by
  have hN:=s1.d hm;have a9:=(sI.a _ hN).2.o m (List.mem_singleton.2 rfl);have a9:NC X n ((bp cr n n G).MU.b q).b m:=a9;have b0:aK m=true:=by have:=hN.1;simp only[Codec.dg,Bool.and_eq_true,cd,List.all_eq_true]at this;exact this.2.2 m (List.mem_singleton.2 rfl)
  have I:=w.b.a.g.1;rw[w.c]at I;have b7:na (NF ((bp cr n n G).MU.b q) p m) p n=true:=by refine Ef rfl (by show (((bp cr n n G).MU.b q).c:Int)≠p;grind[Qi.num]) (by show (((bp cr n n G).MU.b q).c:Int)<n;grind[Qi.num]) (lv h.a.g.2 (m:=0) .b (by simp[aV])) ?_ (oo _) (λy hy=>?_) ?_;grind[NF,dp];rw[List.mem_singleton.1 hy];exact a9.a Q.x h.a.g.2 (by have:=Jq.a;rw[(l q d b).1]at this;rwa [hv]) b0;grind[NF,cH]
  have:=(v.b _ (show ga (bp cr n n (G.bc cr)).a (NF ((bp cr n n G).MU.b q) p m) by rwa [H.sus.net]) rfl b7 hv (by show aV M (((bp cr n n G).MU.b q).c:Int).toNat=true;rw[w.num];exact b5 q d b)).1 rfl;exact⟨this.1 m rfl x ex,this.2⟩
 have A:∀x,x<n->∀k:Int,1<=k->k<=((G.bc cr).b q).Ml.getD x 0->Og U x k:=λx D k k1 k2=>by rcases B x D k k1 k2 with c|⟨m,R,m2,O⟩;exact .inl (Int.le_trans c (E x));grind
 by_cases cd:∃(m:Msg)(x:Nat),m.a=x/\NF ((bp cr n n G).MU.b q) p m∈(bp cr n n G).LQ
 .let⟨m,x,ex,hm⟩:=cd;have hd:=(Y m x ex hm).2;obtain⟨X,F,P,-,g,-⟩:=v.c.l o u;have j:=F.d d b;rw[NW a6]at j;have rq:∀x,x<n->X.d U.b q x=((G.bc cr).b q).Ml.getD x 0:=λx D=>by have:=j.row x D;rwa [a4 q,(show ((bp cr n n (G.bc cr)).b q).b=V by rw[H.sus.st q];exact(l q d b).1),<-v.cr.b]at this
  refine Classical.byContradiction λc=>P.m (Bo g).2 hd (q:=q) (λx D k k1 k2=>?_) _ s (((G.bc cr).b q).Ml.getD s 0) hs ω (by rw[rq s hs];exact ϭ) (Nat.lt_succ_self _);have W:=(P.a.g.at (q:=x) (by rwa [P.d])).1;rw[rq x D]at k2;rcases A x D k ω k2 with z|z;omega;exact z
 by_cases c:1<=((G.bc cr).b q).Ml.getD s 0
 grind
 have:=(v.c.c o).1.g.at (q:=s) (by rwa [(v.c.c o).2.2]);omega
variable {a:Nat}{l:Nat}
structure Qh(cr:Book)(n:Nat)(V M:Int)(G:Grp):Prop where
 c:Oz cr n G.b V M
 e:∀p,p<n->cr p=false->(G.b p).out=false/\(G.b p).h=false/\(G.b p).o=[]
 b:∀p q,p<n->cr p=false->q<n->cr q=false->(G.b p).Ml=(G.b q).Ml
 d:∀q,q<n->aV M q= !cr q
def NY.k(s:NY cr G L)(h:dY n win 4000 G cr)(a:Oz cr n G.b V M)(o:∀q,aV M q=true->cr q=false)(hl:l<n)(a5:cr l=false):Qh cr n V M (((G.bc cr).bc cr).bc cr):=by
 let⟨f0,a1⟩:=h.Pe a o;have N:=h.Is;have s1:=s.a h f0;let⟨f1,U⟩:=N.Pe a1 o;have O:=N.Is;have s2:=s1.a N f1;let⟨f2,H⟩:=O.Pe U o;have Q:=O.Is;have a6:=λ{p q x:Nat}b(u:cr p=false)C(z:cr q=false)(g:x<n)=>s.g h a o b u C z g;have a0:=λ{p q x:Nat}b(u:cr p=false)C(z:cr q=false)(g:x<n)=>s1.g N a1 o b u C z g;have R:∀{G:Grp},dY n win 4000 G cr->Oz cr n G.b V M->∀p,p<n->cr p=false->((G.bc cr).b p).Ml.getD p 0=(G.b p).Ml.getD p 0:=λ{G}r a p b k=>by let⟨S,c⟩:=r.ct a o b k;rw[(show ((G.bc cr).b p).Ml=S.Ml by rw[ln r b];exact c.a.2.2.1),c.cr.c,r.NX.sus.st p];rfl
 obtain⟨X,sI,-,-,-,a4⟩:=Q.pj hl a5;rw[(H l hl a5).2]at a4;have T:∀p,p<n->cr p=false->∀x,x<n->aV M x=true->(((G.bc cr).bc cr).b p).Ml.getD x 0=((G.bc cr).b x).Ml.getD x 0:=λp b k x g v=>by grind
 have t:∀p,p<n->cr p=false->∀x,x<n->aV M x=true->((((G.bc cr).bc cr).bc cr).b p).Ml.getD x 0=((G.bc cr).b x).Ml.getD x 0/\((((G.bc cr).bc cr).bc cr).b x).Ml.getD x 0=((G.bc cr).b x).Ml.getD x 0:=λp b k x g v=>by have E:=o x v;have b1:=a0 b k g E g;have b2:=((Q.OK H o b k g).1 v).1;grind
 have A:∀p,p<n->((((G.bc cr).bc cr).bc cr).b p).Ml.length=n:=λp b=>by have P:=sI.b p b;rw[P.a.g.1,P.d]
 refine⟨H,λp b k=>⟨by have:=(sI.b p b).out;grind,((sI.b p b).b (sI.d b k) (by rwa [(H p b k).2])).2.1,?_⟩,λp q b u C z=>?_,λq C=>?_⟩
 ·
  refine List.eq_nil_iff_forall_not_mem.2 λm v=>?_;have P:=sI.b p b;let⟨x,g,ex⟩:=(P.a.ms m v).s;rw[P.d]at g;have rl:=Q.OK H o b k g;have I:=rl.2.2 m v ex;have W:=(rl.1 I).2 m v ex;rw[(t p b k x g I).2]at W;have ns:=Q.ns p b m v;have:((((G.bc cr).bc cr).bc cr).b p).Nh m=true:=by
   unfold PS.Nh FP;rw[List.all_eq_true];intro j D;have D:j<n:=by rw[<-P.d,<-P.a.a];exact List.mem_range.1 D
   rw[(H p b k).2,ex,Int.toNat_natCast];cases Y:aV M j;rfl;have F:=o j Y;have a7:((G.bc cr).b x).Ml.getD x 0<=(((((G.bc cr).bc cr).bc cr).b p).q.getD j []).getD x 0:=by
    by_cases e:j=p
    have:=(t p b k x g I).1;unfold PS.Ml at this;rw[P.num]at this;rw[e,this];exact ϭ
    ·
     have t1:=N.NX;have t2:=O.NX;have w:=t1.r.P9 D F;let⟨g1,g2⟩:=w.a (t1.r.NH D F) b k λc=>e c.symm;have n1:=s2.d (tC N D g1);let⟨S,c⟩:=O.ct U o b k;have ej:=ln N D;have:=(c.b (K8 ((bp cr n n (G.bc cr)).MU.b j) p) (by rwa [t2.sus.net]) rfl g2 (show ((bp cr n n (G.bc cr)).MU.b j).b=V by have:=(U j D F).1;rwa [ej]at this) (by show aV M (((bp cr n n (G.bc cr)).MU.b j).c:Int).toNat=true;rwa [w.num])).2 rfl x g;have this:((bp cr n n (G.bc cr)).MU.b j).Ml.getD x 0<=(S.q.getD (((bp cr n n (G.bc cr)).MU.b j).c:Int).toNat []).getD x 0:=this;rw[w.num,Int.toNat_natCast]at this;have Z:=T j D F x g I;rw[ej]at Z;have Z:((bp cr n n (G.bc cr)).MU.b j).Ml.getD x 0=_:=Z;rw[ln O b];show _<=(((bp cr n n ((G.bc cr).bc cr)).MU.b p).q.getD j []).getD x 0;rw[c.a.2.2.2.1];omega
   grind
  grind
 .refine List.ext_getElem? λx=>?_;by_cases g:x<n
  .have e:∀y,y<n->((((G.bc cr).bc cr).bc cr).b y).Ml[x]?=some (((((G.bc cr).bc cr).bc cr).b y).Ml.getD x 0):=λy hy=>by have:=A y hy;simp[show x<((((G.bc cr).bc cr).bc cr).b y).Ml.length by omega]
   rw[e p b,e q C];cases v:aV M x with
   |true=>rw[(t p b u x g v).1,(t q C z x g v).1]
   |false=>rw[(Q.OK H o b u g).2.1 v,(Q.OK H o C z g).2.1 v]
  rw[List.getElem?_eq_none (by rw[A p b];omega),List.getElem?_eq_none (by rw[A q C];omega)]
 cases e:cr q;exact a4 q C e;exact Bool.eq_false_iff.2 λc=>by rw[o q c]at e;cases e
def Grp.kh(cr:Book):Nat->Grp->Grp
 |0,G=>G
 |k+1,G=>(Grp.kh cr k G).bc cr
def MP(cr:Book)(G:Grp)(j:Nat):∀k,Grp.kh cr (j+k) G=Grp.kh cr k (Grp.kh cr j G)
 |0=>rfl
 |k+1=>congrArg _ (MP cr G j k)
def dY.Hn(h:dY n win 4000 G cr):∀k,dY n win 4000 (Grp.kh cr k G) cr
 |0=>h
 |k+1=>(dY.Hn h k).Is
def wz(cr:Book)(n:Nat)(G:Grp):Nat:=cw n λi=>if cr i then 0 else (G.b i).b.toNat
def Oc{f g:Nat->Nat}:∀{n:Nat},(∀i,i<n->f i<=g i)->(∃i,i<n/\f i<g i)->cw n f<cw n g
 |0,_,⟨i,b,_⟩=>ω
 |n+1,h,⟨i,b,k⟩=>by have d:=lk (n:=n) λi b=>h i ω;have c:=h n ω;simp only[cw];by_cases e:i=n;grind;have:=Oc (n:=n) (λi b=>h i ω) ⟨i,ω,k⟩;omega
def OU(h:dY n win 4000 G cr):wz cr n G<=wz cr n (G.bc cr)/\(¬Of cr n G->wz cr n G<wz cr n (G.bc cr)):=by
 have e:∀i,i<n->(if cr i then 0 else (G.b i).b.toNat)<=if cr i then 0 else ((G.bc cr).b i).b.toNat:=λi b=>by have:=(Od h b).1;grind
 refine⟨lk e,λc=>Oc e ?_⟩;refine Classical.byContradiction λx=>c λi b j=>?_;have g:=(Od h b).1;have l:=(h.PE b j).1;grind
def KP(h:dY n win 4000 G cr):∀k,wz cr n G<=wz cr n (Grp.kh cr k G)
 |0=>Ϫ
 |k+1=>Nat.le_trans (KP h k) (OU (h.Hn k)).1
structure PR(cr:Book)(n:Nat)(V M:Int)(a:Nat)(G:Grp):Prop where
 b:a<n
 au:cr a=false
 vw:(G.b a).b=V
 mem:(G.b a).m=M
 c:∀i,i<n->cr i=false->(G.b i).b<=V
def Qj(cr:Book)(n:Nat)(V M:Int)(G:Grp):Nat:=3*(Ed cr n*V.toNat-wz cr n G)+(3*Ed cr n+3)*(ir M-Ed cr n)
def PD(g:l<n)(b:cr l=false):∃V M a,PR cr n V M a G:=
 have d:∀m,(∃a,a<n/\a<m/\cr a=false)->∃a,a<n/\cr a=false/\∀i,i<n->i<m->cr i=false->(G.b i).b<=(G.b a).b:=by
  intro m;induction m with
  |zero=>omega
  |succ m p=>
   by_cases c:∃a,a<n/\a<m/\cr a=false
   grind
   grind
 let ⟨a,o,h,k⟩:=d n ⟨l,g,g,b⟩
 ⟨_,_,a,o,h,rfl,rfl,λi e j=>k i e e j⟩
def PR.e(t:PR cr n V M a G)(h:dY n win 4000 G cr):wz cr n G<=Ed cr n*V.toNat/\V.toNat<=wz cr n G/\((∃i,i<n/\cr i=false/\(G.b i).b<V)->wz cr n G<Ed cr n*V.toNat):=by
 have e:Ed cr n*V.toNat=cw n λi=>if cr i then 0 else V.toNat:=by unfold Ed;rw[Nat.mul_comm,<-Eb];refine congrArg _ (funext λi=>?_);split<;>simp
 have d:∀i,i<n->(if cr i then 0 else (G.b i).b.toNat)<=if cr i then 0 else V.toNat:=λi b=>by split;omega;have:=t.c i b ν;omega
 refine⟨by rw[e];exact lk d,?_,λ⟨i,b,g,l⟩=>?_⟩
 .have c:∀m,a<m->V.toNat<=cw m λi=>if cr i then 0 else (G.b i).b.toNat:=by
   intro m;induction m with
   |zero=>omega
   |succ m k=>
    grind[cw,au,vw]
  exact c n t.b
 rw[e];refine Oc d ⟨i,b,?_⟩;have:=(h.PE b g).1;grind
variable {a':Nat}{V' M':Int}
def Pq:∀l:List (Int×ϝ),(∀c∈l,∃f,Codec.dg f=true/\c=zY f)->∃L:List Frame,l=L.map zY/\∀f∈L,Codec.dg f=true
 |[],_=>⟨[],rfl,nofun⟩
 |c::l,h=>by let⟨L,j,e⟩:=Pq l λc k=>ν;let⟨f,d,b⟩:=h c ς;refine⟨f::L,ν,λg m=>?_⟩;grind
def dY.Qk(h:dY n win 4000 G cr):∃L,NY cr ((G.bc cr).bc cr) L:=by
 have t:=h.NX;have j:=h.Is;have k:=j.NX;obtain⟨L,m,e⟩:=Pq _ h.a.i.2;have s:=t.r.a.n;have p:=t.r.a.lim;have d:((Md.bp cr n n G).LQ.take 4000).Sublist _:=List.take_sublist _ _;have q:((Md.bp cr n n G).LQ.take 4000).countP KA<=18:=by apply Nat.le_trans d.countP_le;have:=t.r.Pg (t.sus.net.trans m) e;unfold Grp.LQ;rwa [s,F3 n]
 have o:=k.r.Qc (k.sus.net.trans (show (G.bc cr).a=((Md.bp cr n n G).LQ.take 4000).map zY by rw[Grp.Kg h,N2,p])) λf e=>t.r.N5 f (d.subset e);grind[Grp.Kg]
def NY.m(s:NY cr G L)(h:dY n win 4000 G cr):∃L,NY cr (G.bc cr) L:=by have t:=h.NX;have o:=t.r.Qc (t.sus.net.trans s.net) s.b;grind[Qo,Grp.Kg]
def NY.c(s:NY cr G L)(h:dY n win 4000 G cr):∀k,∃L,NY cr (Grp.kh cr k G) L
 |0=>⟨L,s⟩
 |k+1=>by let⟨L,c⟩:=NY.c s h k;exact c.m (h.Hn k)
def NU(h:dY n win 4000 G cr)(d:i<n):∀k,(G.b i).b<=((Grp.kh cr k G).b i).b/\∀(u:Nat)e,(G.b i).i[u]?=some e->((Grp.kh cr k G).b i).i[u]?=some e
 |0=>⟨ϭ,λ_ _ h=>h⟩
 |k+1=>
  let ⟨a,b⟩:=NU h d k
  have g:=Od (h.Hn k) d
  ⟨Int.le_trans a g.1,λu e j=>g.2 u e (b u e j)⟩
def PY:∀a:Nat,cr a=false->∃l,l<=a/\cr l=false/\∀r,r<l->cr r=true:=λa=>by
 induction a using Nat.strongRecOn with
 |_ a b=>
  grind
def PJ.j{cr':Book}{A:Gh}{S T:PS}(p:PJ X cr n i S)(q:PJ A cr' n i T)(w:S.i.length=S.b.toNat)(h:∀(u:Nat)e,S.i[u]?=some e->T.i[u]?=some e):A.a n S.b=S.m:=by rw[p.mem];unfold Gh.a;split;rfl;obtain⟨e,g⟩:∃e,S.i[S.b.toNat-1]?=some e:=⟨_,List.getElem?_eq_getElem ω⟩;rw[(p.left _ _ g).1,(q.left _ _ (h _ _ g)).1]
def PR.g(t:PR cr n V M a G)(h:dY n win 4000 G cr)(k:Nat)(c:PR cr n V' M' a' (Grp.kh cr k G)):V<=V'/\(V'=V->M'=M)/\ir M'+(V'-V).toNat<=ir M:=by
 obtain⟨X,s,P,J,-⟩:=(h.Hn k).pj c.b c.au;obtain⟨A,u,Q,K,v,-⟩:=h.pj t.b t.au;have w:=K.j (s.d t.b t.au) (Q.a.left.2 (Bo v).2) (NU h t.b k).2;have p:=J.mem;rw[t.vw,t.mem]at w;rw[c.vw,c.mem]at p;have x:V<=V':=by have:=(NU h t.b k).1;have:=c.c a t.b t.au;rw[<-t.vw];omega
 have l:=(h.PE t.b t.au).1;rw[t.vw]at l;have m:∀d:Nat,V+d<=V'->ir (X.a n (V+d))+d<=ir (X.a n V):=by
  intro d;induction d with
  |zero=>simp
  |succ d q=>
   intro z;have:=q ω;have:=P.x.j h.a.g.2 (v:=V.toNat+d) (by have:=J.a;rw[c.vw]at this;omega);grind
 refine⟨x,λe=>ν,?_⟩;have:=m (V'-V).toNat ω;grind
def PR.d(t:PR cr n V M a G)(h:dY n win 4000 G cr)(k:∀i,i<n->cr i=false->(G.b i).b=V):Oz cr n G.b V M:=λi e g=>by obtain⟨X,s,-,p,-⟩:=h.pj t.b t.au;refine⟨k i e g,?_⟩;rw[(s.d e g).mem,k i e g,<-t.mem,p.mem,t.vw]
def Pj(h:dY n win 4000 G cr){k:Nat}(l:wz cr n (Grp.kh cr k G)<=wz cr n G){j:Nat}(m:j<k):Of cr n (Grp.kh cr j G):=by refine Classical.byContradiction λc=>?_;have g:=KP h j;have d:=(OU (h.Hn j)).2 c;have e:=KP (h.Hn (j+1)) (k-(j+1));rw[<-MP,show j+1+(k-(j+1))=k by omega]at e;grind[Grp.kh]
def OV(cr:Book)(n:Nat)(G:Grp):Prop:=∃V M,Oz cr n G.b V M/\∀q,aV M q=true->cr q=false
def NY.o(s:NY cr G L)(h:dY n win 4000 G cr)(t:PR cr n V M a G)(B:ir M<2*Ed cr n)(z:¬OV cr n G):wz cr n G<wz cr n (Grp.kh cr 3 G)\/(wz cr n G=Ed cr n*V.toNat/\wz cr n G<wz cr n (Grp.kh cr 6 G)):=by
 by_cases c:∃q,q<n/\cr q=false/\(G.b q).b<V
 obtain⟨q,r,o,g⟩:=c;refine .inl (Classical.byContradiction λx=>?_);have b:=λ{j:Nat}(k:j<3)=>Pj h ω k;rw[<-t.vw]at g;exact PV s h (b (j:=0) ω) (b (j:=1) ω) t.b t.au r o g (b (j:=2) ω);have g:∀i,i<n->cr i=false->(G.b i).b=V:=λi v y=>by have:=t.c i v y;grind
 have u:=t.d h g;have p:∃c,aV M c=true/\cr c=true:=by refine Classical.byContradiction λx=>z ⟨V,M,u,λq r=>?_⟩;cases e:cr q;rfl;grind
 obtain⟨l,E,C,w⟩:=PY a t.au;refine .inr ⟨?_,Classical.byContradiction λx=>?_⟩
 .unfold wz Ed;rw[Nat.mul_comm,<-Eb];have A:∀m,m<=n->(cw m λi=>if cr i then 0 else (G.b i).b.toNat)=cw m λi=>V.toNat*if cr i then 0 else 1:=by
   intro m;induction m with
   |zero=>intro _;rfl
   |succ m D=>
    grind[cw]
  grind
 have b:=λ{j:Nat}(k:j<6)=>Pj h (k:=6) ω k;exact PU s h (by have:=t.b;omega) C w u p B (b (j:=0) ω) (b (j:=1) ω) (b (j:=2) ω) (b (j:=3) ω) (b (j:=4) ω) (b (j:=5) ω)
def OV.b(c:OV cr n G)(h:dY n win 4000 G cr):∀k,OV cr n (Grp.kh cr k G)
 |0=>c
 |k+1=>
  let ⟨V,M,a,b⟩:=OV.b c h k
  ⟨V,M,((h.Hn k).Pe a b).2,b⟩
def Pr{u v v' w w' s s':Nat}(h:1<=u/\u<=6)(d:w<=u*v)(b:w'<=u*v')(j:u<=s)(c:u<=s')(l:w<w')(m:v<=v')(k:s'+(v'-v)<=s)(g:v'=v->s'=s):3*(u*v'-w')+(3*u+3)*(s'-u)+3<=3*(u*v-w)+(3*u+3)*(s-u)/\(w=u*v->3*(u*v'-w')+(3*u+3)*(s'-u)+6<=3*(u*v-w)+(3*u+3)*(s-u)):=by
 have:u=1\/u=2\/u=3\/u=4\/u=5\/u=6:=ω;rcases this with e|e|e|e|e|e<;>subst e<;>omega
def P3{u v w s:Nat}(e:1<=u/\u<=6)(b:v<=w)(d:u<=s)(c:s<2*u)(g:v+s<=6):3*(u*v-w)+(3*u+3)*(s-u)<=30:=by have:u=1\/u=2\/u=3\/u=4\/u=5\/u=6:=ω;grind
def OS(c:a<n)(b:cr a=false):1<=Ed cr n:=by rw[NV];exact List.length_pos_of_mem (List.mem_filter.2 ⟨List.mem_range.2 c,by simp[b]⟩)
def NY.h:∀(k:Nat){G:Grp}{L:List Frame}{V M:Int}{a:Nat},NY cr G L->dY n win 4000 G cr->PR cr n V M a G->ir M<2*Ed cr n->Qj cr n V M G<=k->OV cr n (Grp.kh cr k G):=by
 intro k;induction k using Nat.strongRecOn with
 |_ k y=>
  intro G L V M a s h t E D;by_cases u:OV cr n G;exact u.b h k;have r:=h.PE t.b t.au;rw[t.vw,t.mem]at r;have A:=t.e h;have m:1<=Ed cr n/\Ed cr n<=6:=⟨OS t.b t.au,by have:=h.a.g;omega⟩;have c:∀j,wz cr n G<wz cr n (Grp.kh cr j G)->(j<=3\/(wz cr n G=Ed cr n*V.toNat/\j<=6))->0<j->OV cr n _:=λj w v H=>by
   have p:=h.Hn j;obtain⟨C,z,F,g⟩:=PD t.b t.au;obtain⟨O,K,I⟩:=t.g h j g;have l:=p.PE g.b g.au;rw[g.vw,g.mem]at l;have o:=g.e p;have d:=Pr m A.1 o.1 r.2.2 l.2.2 w ω ω λe=>ν;obtain⟨N,B⟩:=s.c h j;unfold Qj at D;have q:j<=k/\3*(Ed cr n*C.toNat-wz cr n (Grp.kh cr j G))+(3*Ed cr n+3)*(ir z-Ed cr n)<=k-j:=by rcases v with x|x;omega;omega
   have:=y _ ω B p g ω q.2;rwa [<-MP,show j+(k-j)=k by omega]at this
  rcases s.o h t E u with x|x;grind;grind
def settles(h:dY n win 4000 G cr)(t:PR cr n V M a G)(A:ir M<2*Ed cr n):∃V M,Qh cr n V M (Grp.kh cr 40 G):=by let⟨L,s⟩:=h.Qk;have e:=h.Hn 2;have s:NY cr (Grp.kh cr 2 G) L:=s;obtain⟨x,u,r,d⟩:=PD t.b t.au;let⟨z,w,v⟩:=t.g h 2 d;have g:=e.PE d.b d.au;rw[d.vw,d.mem]at g;have j:1<=Ed cr n/\Ed cr n<=6:=⟨OS t.b t.au,by have:=h.a.g;omega⟩;have p:=P3 j (d.e e).2.1 g.2.2 ω (by have:=h.a.g;omega);have c:=(s.h 30 e d ω p).b (e.Hn 30) 5;let⟨y,o⟩:=s.c e 35;let⟨l,k,m,q⟩:=c;exact⟨l,k,o.k (h.Hn 37) m q t.b t.au⟩
