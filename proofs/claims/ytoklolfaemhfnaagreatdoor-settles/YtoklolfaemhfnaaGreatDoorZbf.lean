import Derived.Test.YtoklolfaemhfnaaGreatDoorZbe
set_option maxRecDepth 100000
set_option maxHeartbeats 0
set_option linter.defProp false
open Go.Proofs.Tryz
namespace Go.Proofs.Y
section
open Go.RowKit
open Md (PS Vote Bal Lft Wf MsgW Sends)
variable {w w':Δ}{F:ϑ}{b:Nat}{S:PS}{o:Pl}{g:PS->Nat->PS}{rv cv mv:Θ}{l:Ϙ}{k q x:Nat}{B:Bal}
def E6(p:PP w F b S o)(f:Codec.Frame)(G:S.e.length<=1000000)(i:aw w w rv f.g)(j:aw w w cv f.i)(n:ba w w mv f.d):ϖ 165 #[pT b 0,.agg #[J f.c,J 0,J f.j,J f.b,J f.h,J f.a,J f.e,rv,cv,mv]] w λe d=>ϱ e ϳ/\∃a,To w F b o d (S.MZ f) {o with d:=a}:=by
 obtain⟨z,C,u,rfl⟩:=i.b;obtain⟨y,D,v,rfl⟩:=j.b;obtain⟨t,A,s,rfl⟩:=n.b;cases c:Codec.dg _;apply (Ax p.e {f with f:=S.c} rfl z y t C u D v A s i j n c).m;rintro d I;rw[show S.MZ f=S by unfold PS.MZ;rw[c];rfl];exact⟨rfl,o.d,p.d I⟩;apply (Aw p.e {f with f:=S.c} rfl z y t C u D v A s i j n c (ϰ G)).m;rintro d⟨m,a,r,H⟩;rw[show S.MZ f={S with e:=S.e++[{f with f:=S.c}]} by unfold PS.MZ;rw[c];rfl];exact⟨rfl,a,p.step (m.e λx _ E=>E.elim .inl λe=>.inr (.inr (.inr (.inr e)))) (λ_ h=>h) (λ_ h=>.inl h) r (by rwa [y8]) p.ms rfl rfl rfl⟩
def aG(g:PS->Nat->PS)(l:Ϙ)(S:PS)(k:Nat):PS:=(l.take k).foldl g S
def jb(h:l[k]?=some q):aG g l S (k+1)=g (aG g l S k) q:=by obtain⟨a,rfl⟩:=ym.1 h;unfold aG;rw[<-List.take_append_getElem a,List.foldl_append];rfl
def iH(g:PS->Nat->PS)(l:Ϙ):aG g l S l.length=l.foldl g S:=by unfold aG;rw[AE]
def fa(a:∀T q,Sends T (g T q) 1)(l:Ϙ)(k:Nat):Sends S (aG g l S k) k:=(Md.bK g 1 a _ S).c (by rw[xk];lia)
def gG(a:Int)(n:Nat):(Md.iX a n).length<=n:=yr (G3 _ _) ς
def fN{a:Nat}{v:Θ}(h:w.ownsRow a 3 1 v l.length (cz l))(s:∀g,a<=g->g<w->w'.heap[g]?=w.heap[g]?):∃m c,v=.slice m l.length c/\∀(k q:Nat),l[k]?=some q->∃g,m=some ⟨g,0,none⟩/\ε w' g k (J q):=by
 rcases h.2 with ⟨e,n⟩|⟨g,i,t,e,r,p,-⟩
 .refine⟨none,0,by rw[e,n],λk q f=>?_⟩;have:=(ym.1 f).1;lia
 refine⟨_,i,e,λk q f=>⟨g,rfl,?_⟩⟩;have j:=h.cells (by rw[e];rfl) k (J q) (by simp[cz,f]);rw[(by unfold Addr.add;split<;>simp_all:(⟨g,0,none⟩:Addr).add k=(aT g k))]at j;exact(World.cell?_of_block (s g r (yk.1 p).1)).trans j
def PP.f(p:PP w F b S o)(a:o.c=some x)(c:S.d=some B):fD w (o.R F b) B x o.e o.a:=by have h:=p.lead;rwa [a,c]at h
def rP{fr:PS->Nat->Codec.Frame}(m:∀T q,g T q=T.MZ (fr T q))(i:∀T q,T={S with e:=T.e}->fr T q=fr S q){L:Ϙ}{r j a:Δ}{c:Θ}(h:To r F b o j (aG g L S k) {o with d:=c})(t:L[k]?=some q)(z:S.e.length+k<=1000000)(p:Ϟ j a)(u:aw a a rv (fr S q).g)(v:aw a a cv (fr S q).i)(y:ba a a mv (fr S q).d):ϖ 165 #[pT b 0,.agg #[J (fr S q).c,J 0,J (fr S q).j,J (fr S q).b,J (fr S q).h,J (fr S q).a,J (fr S q).e,rv,cv,mv]] a λe n=>ϱ e ϳ/\∃c,To r F b o n (aG g L S (k+1)) {o with d:=c}:=by
 have d:Sends S (aG g L S k) k:=fa (λT q=>by rw[m];exact Md.ak T _) L k;apply (E6 (h.c.c p) (fr S q) (ϕ d.b) u v y).m;rintro n⟨f,s⟩;refine⟨rfl,f,?_⟩;rw[jb t,m,i _ q d.e];exact(h.a (h.c.d p)).a s
def tM(B:Bal)(T:PS)(q:Nat):Codec.Frame:=⟨3,0,q,B.out,T.b,B.g,0,[],[],[]⟩
def lz(B:Bal)(T:PS)(q:Nat):PS:=T.MZ (tM B T q)
def dt(S:PS)(B:Bal):Ϙ:=Md.iX (Md.cX B.a B.c) S.n
def mH(p:PP w F b S o)(wf:Wf S)(u:o.c=some x)(N:S.d=some B)(hs:S.e.length<=900000):ϖ 195 #[pT b 0] w λe d=>ϱ e ϳ/\∃a,To w F b o d (S.Mi B) {o with d:=a}:=by
 have P:=p.a.y 13;rw[u]at P;simp only[eb,yf,yd,ye]at P;have hW:=wf.lead B N;have HC:Hid (∀d,Ϟ w d->ε d x 3 (J B.a)/\ε d x 4 (J B.c)):=λd Z=>⟨((p.c Z).f u N).c.a 3 _ rfl,((p.c Z).f u N).c.a 4 _ rfl⟩;have C:Hid (∀d,Ϟ w d->ϖ 164 #[pT b 0,J (bits .andNot .i64 B.a B.c)] d λe G=>∃v,ϱ e v/\G.ownsRow d 3 1 v (dt S B).length (cz (dt S B))/\Ϟ d G):=λd Z=>(cK hW.asked hW.answ).1▸tR (p.c Z) wf _;have Y:(dt S B).length<=6:=yr (gG _ S.n) wf.c;have r:Hid (∀s v,Ϟ w s->s.ownsRow w 3 1 v (dt S B).length (cz (dt S B))->∃I c,v=.slice I (dt S B).length c/\(∃a,To s F b o s (aG (lz B) (dt S B) S 0) {o with d:=a})/\(∀wr a,To s F b o wr (aG (lz B) (dt S B) S (dt S B).length) {o with d:=a}->∃a,To w F b o wr (S.Mi B) {o with d:=a})/\∀(k:Nat)wr a,k<(dt S B).length->To s F b o wr (aG (lz B) (dt S B) S k) {o with d:=a}->∃q g:Nat,I=some ⟨g,0,none⟩/\ε wr g k (J q)/\(ε wr b 6 (J S.b)/\ε wr x 0 (J B.g)/\ε wr x 2 (J B.out))/\ϖ 165 #[pT b 0,.agg #[J 3,J 0,J q,J B.out,J S.b,J B.g,J 0,sN,sN,sN]] wr.drew λe E=>ϱ e ϳ/\(∃a,To s F b o E (aG (lz B) (dt S B) S (k+1)) {o with d:=a})/\(ε E b 6 (J S.b)/\ε E x 0 (J B.g)/\ε E x 2 (J B.out))):=λs v t m=>by
  let ⟨I,c,hv,_⟩:=fN (w':=s) m λ_ _ _=>rfl
  refine⟨I,c,hv,⟨o.d,To.f (p.c t)⟩,λwr a h=>⟨a,(p.d t).a (by rwa [iH]at h)⟩,λk wr a hk h=>?_⟩;have O:=yh hk
  let ⟨a5,c',U,D⟩:=fN (w':=wr) m λg hg z=>h.e.block g z λe=>ϕ (p.h e)
  rw[hv]at U;injection U with e1 _ _;subst e1
  let ⟨g,hg,hc⟩:=D k _ O
  have y:∀{d a k},PP d F b (aG (lz B) (dt S B) S k) {o with d:=a}->ε d b 6 (J S.b)/\ε d x 0 (J B.g)/\ε d x 2 (J B.out):=λ{d a k}pp=>by have a1:Sends S (aG (lz B) (dt S B) S k) k:=fa (λT q=>Md.ak T _) _ k;rw[a1.e]at pp;have hB:=pp.f u N;exact⟨pp.a.y 6,hB.c.y 0,hB.c.y 2⟩
  refine⟨_,g,hg,hc,y h.c,?_⟩;refine(rP (fr:=tM B) (λ_ _=>rfl) (λT q e=>by unfold tM;rw[e]) h O ω Ϡ.drew (rv:=sN) (cv:=sN) (mv:=sN) (.inl ⟨⟨_,_,rfl⟩,rfl⟩) (.inl ⟨⟨_,_,rfl⟩,rfl⟩) (.inl ⟨⟨_,_,rfl⟩,rfl⟩)).m ?_;rintro E⟨a0,h3⟩;exact⟨rfl,⟨a0,h3⟩,y h3.c⟩
 clear p wf N hs hW u;generalize dt S B=L at r Y C;go_enter func195,ntmps195;go_wp21;refine wp_region_held_drew (S:=λd=>ε d x 3 (J B.a)/\ε d x 4 (J B.c)) rfl (HC _ Ϡ.drew) λf=>?_;(iterate 10 refine ψ ?_);apply wk 12;refine we 10 λK M=>?_;go_simp;apply (C _ Ϡ.drew).mono;rintro e s⟨v,rfl,m,t⟩;have A:Ϟ w s:=(Ϡ.drew).trans (t.mono ς);obtain⟨I,c,rfl,h0,hE,Q⟩:=r s v A (ϰ m);have HE:=ah hE;have HS:=ah Q;have W:=HC s A;go_wp21;refine M.out _ _ W λf=>?_;clear M K;apply wk 11;refine wpAnyH_done κ ?_ _;clear f HC W;go_wp21;go_loopw [21] (λi wr=>∃k:Nat,k<=L.length/\i=J k/\∃a,To s F b o wr (aG (lz B) L S k) {o with d:=a}) λi _=>L.length-(intOf i).toNat
 case atStart=>exact⟨0,ω,rfl,(ah h0)⟩
 case round=>
  obtain⟨k,hk,rfl,a,ht⟩:=hrel;by_cases z:k<L.length
  .have a3:k<L.length:=ω;have a6:0<=k:=ω;obtain⟨q,g,rfl,cg,V,hc⟩:=HS k wr a z ht;have R:=ah hc;clear hc ht HS;go_wp21;refine wp_region_held_drew (S:=λd=>ε d b 6 (J S.b)/\ε d x 0 (J B.g)/\ε d x 2 (J B.out)) rfl V λf=>?_;(iterate 15 refine ψ ?_);refine we 15 λK M=>?_;go_simp;apply R.m;rintro E⟨H,X⟩;have H3:=ah H;clear H R;go_wp21;refine M.out _ _ X λf=>?_;clear M K;refine wpAnyH_done κ ?_ _;clear f X V;go_wp21;exact⟨⟨k+1,ω,by go_num,H3⟩,by simp[intOf];lia⟩
  have a4:¬(k:Int)<(L.length:Int):=ω;have a2:k=L.length:=ω;have HT:Hid (∃a,To w F b o wr (S.Mi B) {o with d:=a}):=HE wr a (by rwa [<-a2]);clear ht HS HE;go_wp21;go_end0;exact⟨rfl,HT⟩
end
section
open Go.RowKit
open Go.Pm (Perm Fam SupO FixS Loose Shut)
open Md (PS Vote Bal Lft)
variable {v:Θ}{x b:Nat}{R R':ϑ}{o:Pl}
section
variable{ρ:Perm}{F:ϑ}{w w2:Δ}
def Hd.l(ρ:Perm)(h:Hd):Hd:={h with k:=h.k.pm ρ,e:=h.e.pm ρ,j:=h.j.pm ρ}
def PA.a5(al:gS ρ F w w2){h:Hd}{kn:List (Υ)}{l:aL}{evs:List Ev}{snt:List bC}{kb mb:Nat}{rbs:Ϙ}{es:Array MapEntry}{clk:Nat}{ev sv:Θ}(p:PA w F b h kn l evs snt kb mb rbs es clk ev sv):PA w2 (tf ρ F) (ρ.f b) (h.l ρ) kn (l.map λx=>(x.1,x.2.pm ρ)) evs snt (ρ.f kb) (ρ.f mb) (rbs.map ρ.f) (es.map (MapEntry.pm ρ)) clk (ev.pm ρ) (sv.pm ρ) where
 a:=by have:=af.j al p.t p.a;simpa[Hd.c,Hd.l,Addr.pm]using this
 e:=p.e.i al p.z p.fr
 map:=al mb _ p.s p.map
 o:=p.o.c
 i:=p.i.a
 d:=λx hx=>by obtain⟨y,hy,rfl⟩:=yW.1 hx;refine⟨(p.d y hy).1.j al (iG _),λg hg=>?_⟩;simp only[qe]at hg;obtain⟨g0,h0,rfl⟩:=yE.1 hg;intro hm;obtain⟨r,hr,e⟩:=yW.1 hm;rw[ρ.Nd e]at hr;exact(p.d y hy).2 g0 h0 hr
 c:=p.c.j al (Ai _)
 f:=p.f.j al (vL _)
 t:=tf.a p.t
 z:=tf.a p.z
 s:=tf.a p.s
 fr:=λr hr=>by obtain⟨r0,h0,rfl⟩:=yW.1 hr;exact tf.a (p.fr r0 h0)
def qf(q:gS ρ F w w2){e:ϟ}{i:Nat}{n:Nat}{h:Ϣ}(p:∀g,v.ownBlock=some g->F g)(r:w.ownsRow 0 e i v n h):w2.ownsRow 0 e i (v.pm ρ) n (h.map ρ.v):=by refine⟨by rw[yL];exact r.1,?_⟩;rcases r.2 with ⟨a,d⟩|⟨g,c,s,a,-,k,d,m,j,l⟩;exact .inl ⟨by rw[a];simp,d⟩;refine .inr ⟨ρ.f g,c,_,by rw[a];simp[Addr.pm],oI _,q g _ (p g (by rw[a];rfl)) k,d,m,ϰ j,?_⟩;rw[yV,<-List.map_take,l]
def iY(d:gS ρ F w w2){g j:Nat}(c:F g)(h:w.cell? (aT g j)=some v):w2.cell? ⟨ρ.f g,j,none⟩=some (v.pm ρ):=by
 unfold World.cell? at h|-;rcases a:w.heap[g]? with _|o;simp only[a]at h;cases h;simp only[a]at h;simp only[d g o c a];cases o<;>simp only[Obj.pm]at h|- <;>try cases h
 simp at h|-;simp[h]
def bI.e(d:gS ρ R w w2)(k:∀x,R (ρ.i x)->R' x){l:List ϥ}(h:bI w R v l):bI w2 R' (v.pm ρ) l:=by
 rcases h with ⟨⟨n,c,rfl⟩,C⟩|⟨g,e,rfl,u,a,t⟩
 .exact .inl ⟨⟨n.map (Addr.pm ρ),c,by cases n<;>simp⟩,C⟩
 refine .inr ⟨ρ.f g,e,by simp[Addr.pm],?_,k _ (by rwa [ρ.a]),λj m s=>?_⟩;have:=d g _ a (yl u);exact(yk.1 this).1;obtain⟨B,r,A,z,q,y⟩:=t j m s;refine⟨B.pm ρ,ϰ (iY d a r),ϰ (iY d a A),iY d a z,ϰ (iY d a q),?_⟩;have:=y.j d (iG _);exact⟨this.d,λx p=>k x (this.c x p)⟩
def aE.zA(d:gS ρ R w w2)(c:∀x,R (ρ.i x)->R' x){l:Υ}(h:aE w R v l):aE w2 R' (v.pm ρ) l:=
 have:=eB.j d (iG _) h
 ⟨this.d,λx a=>c x (this.c x a)⟩
def Cs(ρ:Perm)(v:Θ×Θ):Θ×Θ:=(v.1.pm ρ,v.2.pm ρ)
def nL:∀(l:List (Υ×Vote))(c:List (Θ×Θ)),(bF l c).map ρ.v=bF l (c.map (Cs ρ))
 |a::l,v::c=>by simp only[bF,y8,yN,Cx,nL l c];simp[Cs]
 |[],c=>by cases c<;>rfl
 |_::_,[]=>rfl
def nR:∀(l:List Lft)(c:List (Θ×Θ)),(bV l c).map ρ.v=bV l (c.map (Cs ρ))
 |a::l,v::c=>by simp only[bV,y8,yN,Cx,nR l c];simp[Cs]
 |[],c=>by cases c<;>rfl
 |_::_,[]=>rfl
def Pl.p(ρ:Perm)(o:Pl):Pl:=⟨o.l.map λx=>(x.1,x.2.pm ρ),ρ.f o.kb,ρ.f o.m,o.k.map ρ.f,o.n.map (MapEntry.pm ρ),o.j,o.g.pm ρ,o.d.pm ρ,o.h.pm ρ,o.c.map ρ.f,o.e.pm ρ,o.a.map (Cs ρ),o.i.pm ρ,o.f.map (Cs ρ)⟩
def As:(v.pm ρ).ownBlock=some x↔v.ownBlock=some (ρ.i x):=by rw[qe,yE];constructor;rintro⟨g,a,rfl⟩;rwa [ρ.a];intro h;exact⟨_,h,ρ.c x⟩
def KX{a:Nat}:x=ρ.f a↔ρ.i x=a:=⟨λe=>by rw[e,ρ.a],λe=>by rw[<-e,ρ.c]⟩
def Pl.r:(o.p ρ).X x↔o.X (ρ.i x):=by unfold Pl.X Pl.p;simp only[As,Option.isSome_map];constructor;rintro(h|h|h);obtain⟨g,a,rfl⟩:=yE.1 h;rw[ρ.a];exact .inl a;exact .inr (.inl h);exact .inr (.inr h);rintro(h|h|h);exact .inl (yE.2 ⟨_,h,ρ.c x⟩);exact .inr (.inl h);exact .inr (.inr h)
def Pl.s:(o.p ρ).M (ρ.f b) x↔o.M b (ρ.i x):=by unfold Pl.M;rw[Pl.r];refine or_congr ?_ yK;unfold Pl.U Pl.p;simp only[As,KX];refine or_congr yK (or_congr yK (or_congr ?_ yK));rw[yW];constructor;rintro⟨r,a,rfl⟩;rwa [ρ.a];intro h;exact⟨_,h,ρ.c x⟩
end
open Go.Pm (Sup Inside Ran Sim restrict loose_live obj_back frame_calls)
open Go.Cr (fam Tabs leafLaw progOk)
open Md (Wf)
section
structure PQ(w:Δ)(F:ϑ)(b:Nat)(S:PS)(o:Pl):Prop where
 a:PA w F b (o.q S) S.q o.l S.j (S.e.map lF) o.kb o.m o.k o.n o.j o.g o.d
 ms:o.l.map Prod.fst=S.o
 d:∀x,o.X x->F x
 vote:aE w (o.R F b) o.h S.a.a
 lead:iV w (o.R F b) o.c S.d o.e o.a
 left:tg w (o.R F b) S.i o.i o.f
variable {w w' w2:Δ}{F F':ϑ}{b:Nat}{S S':PS}{o:Pl}{ρ:Perm}
def PQ.h(p:PQ w F b S o):PP w (aY F w) b S o:=by have c:jo (o.R F b) (o.R (aY F w) b) w w:=⟨Ϫ,λg d _=>⟨⟨.inl d.1,d.2⟩,rfl⟩⟩;exact⟨p.a.k aY.c,p.ms,λx a=>.inl (p.d x a),λx a=>.inr a,p.vote.f c,p.lead.a c λ_ _=>rfl,p.left.c c λ_ _=>rfl⟩
def PP.a6(p:PP w F b S o):PQ w (λx=>F x/\x<w) b S o:=by have a:jo (o.R F b) (o.R (λx=>F x/\x<w) b) w w:=⟨Ϫ,λg d e=>⟨⟨⟨d.1,e⟩,d.2⟩,rfl⟩⟩;exact⟨p.e.a1,p.ms,λx c=>⟨p.fx x c,p.n c⟩,p.vote.f a,p.lead.a a λ_ _=>rfl,p.left.c a λ_ _=>rfl⟩
def PQ.c(p:PQ w F b S o)(h:∀x,F x->F' x):PQ w F' b S o:=
 have a:jo (o.R F b) (o.R F' b) w w:=⟨Ϫ,λg c _=>⟨⟨h g c.1,c.2⟩,rfl⟩⟩
 ⟨p.a.k h,p.ms,λx d=>h x (p.d x d),p.vote.f a,p.lead.a a λ_ _=>rfl,p.left.c a λ_ _=>rfl⟩
def PQ.g(p:PQ w F b S o)(c:∀x,F x->x<w.heap.size->w'.heap[x]?=w.heap[x]?)(a:w.heap.size<=w'):PQ w' F b S o:=
 have d:jo _ (o.R F b) w w':=⟨a,λg h e=>⟨h,c g h.1 e⟩⟩;have i:=λx f=>c x (p.d x f) (p.h.n f)
 ⟨p.a.u c,p.ms,p.d,p.vote.f d,p.lead.a d i,p.left.c d λg e=>i g (.inr (.inr e))⟩
def GC(a:Option Nat):(eb a).pm ρ=eb (a.map ρ.f):=by cases a<;>simp[eb,Addr.pm]
def iV.d{w:Δ}{R:ϑ}{d:Option Nat}{L:Option Bal}{c:Θ}{a:List (Θ×Θ)}{x:Nat}{B:Bal}(f:d=some x)(e:L=some B)(h:fD w R B x c a):iV w R d L c a:=by rwa [f,e]
def PQ.e(p:PQ w F b S o)(k:gS ρ F w w2):PQ w2 (tf ρ F) (ρ.f b) S (o.p ρ):=by
 have j:∀x,o.R F b (ρ.i x)->(o.p ρ).R (tf ρ F) (ρ.f b) x:=λx h=>⟨h.1,λC=>h.2 (Pl.s.1 C)⟩;have c:gS ρ (o.R F b) w w2:=λr I G D=>k r I G.1 D;have H:(o.q S).l ρ=(o.p ρ).q S:=by unfold Pl.q zc Hd.l Pl.p;simp only[GC]
 refine⟨?_,?_,λx E=>p.d _ (Pl.r.1 E),p.vote.zA c j,?_,?_⟩;have:=p.a.a5 k;rwa [H]at this;show (o.l.map λx=>(x.1,x.2.pm ρ)).map Prod.fst=S.o;rw[AD];exact p.ms
 .rcases p.lead.cases with ⟨e,s⟩|⟨x,B,e,s,m⟩
  .have:(o.p ρ).c=none:=by unfold Pl.p;simp[e]
   rw[this,s];trivial
  refine iV.d (x:=ρ.f x) (by unfold Pl.p;simp[e]) s ⟨?_,?_,?_,λi a v q A=>?_⟩;have:=af.j k (p.d x (.inl e)) m.c;simpa[bu,Pl.p]using this;show (o.a.map _).length=_;rw[yL];exact m.f;have:=qf k (λg y=>p.d g (.inr (.inl ⟨by rw[e];rfl,y⟩))) m.d;rwa [nL]at this;have d:(o.a.map _)[i]?=some v:=A;rw[yZ]at d;obtain⟨u,t,rfl⟩:=yE.1 d
  let ⟨z,n⟩:=m.e i a u q t
  exact⟨z.zA c j,n.zA c j⟩
 refine⟨?_,?_,λi a v q A=>?_⟩;show (o.f.map _).length=_;rw[yL];exact p.left.f;have:=qf k (λg y=>p.d g (.inr (.inr y))) p.left.d;rwa [nR]at this;have d:(o.f.map _)[i]?=some v:=A;rw[yZ]at d;obtain⟨u,t,rfl⟩:=yE.1 d
 let ⟨z,n⟩:=p.left.e i a u q t
 exact⟨z.zA c j,n.e c j⟩
def PZ(w:Δ)(F:ϑ)(b:Nat)(S:PS):Prop:=∃o,PQ w F b S o
def PZ.a(p:PZ w F b S)(c:∀x,F x->x<w.heap.size->w'.heap[x]?=w.heap[x]?)(a:w.heap.size<=w'):PZ w' F b S:=p.imp λ_ p=>p.g c a
def PZ.e(p:PZ w F b S)(h:∀x,F x->F' x):PZ w F' b S:=p.imp λ_ p=>p.c h
def PZ.d(p:PZ w F b S):F b:=p.elim λ_ p=>p.a.t
def PZ.f(p:PZ w F b S):b<w:=p.elim λ_ p=>p.a.a.f
def PZ.c(p:PZ w F b S)(a:gS ρ F w w2):PZ w2 (tf ρ F) (ρ.f b) S:=p.elim λ_ p=>⟨_,p.e a⟩
def PK(w:Δ)(F:ϑ)(b:Nat)(S:PS):Prop:=∃F1:ϑ,(∀x,F1 x->F x)/\PZ w F1 b S/\Cl w F1
def wY(h:Tabs w):CH w:=λi c=>by have a:=h.2 i c;have:∀i,i<64->(Go.Cr.gO.getD i 0:Int)=((Lib.deBruijn64tab.getD i 0:Nat):Int):=θ;rwa [this i c]at a
def K2{f:FuncId}(hf:fam f=true)(Y:fam.leaf f=false)(d:Ϣ)(j:∀v∈d,∀X:Perm,v.pm X=v){v:Θ}(u:∀X:Perm,v.pm X=v)(K:∀Q W P L,PP Q W P S L->CH Q->¬W 1->Do f (Value.pointer (some ⟨P,0,none⟩)::d).toArray v Q W P L S')(p:PZ w F b S)(c:Cl w F):ϖ f (Value.pointer (some ⟨b,0,none⟩)::d).toArray w λe H=>ϱ e v/\cW F w H/\PK H (aY F w) b S':=by
 have hb:=p.d
 let ⟨T,q,B,hS,hT,hI,E,l,U,_⟩:=c.e
 let ⟨L,M⟩:=p.c U
 have G:=λx h=>by have:F (q.f x):=h;have C:=l _ this;rwa [q.a]at C
 have t:=K T _ (q.i b) L M.h (wY hT) (λe=>by
  rcases e with e|e
  .have:=(G 1 e).1;lia
  have:=B.c;lia)
 have y:=l b hb;have Z:=frame_calls progOk leafLaw hI hT c.g hf Y (λv u=>by rw[Cy]at u;rcases yF.1 u with rfl|u;intro σ N;have:=N.1 _ y.1 y.2;simp[Addr.pm,this];intro σ _;exact j v u σ) t λe H C=>⟨v,C.1⟩
 have s:((Value.pointer (some ⟨q.i b,0,none⟩)::d).toArray.map q.v)=(Value.pointer (some ⟨b,0,none⟩)::d).toArray:=by rw[Fj,yN,iL λv u=>j v u q];simp[Addr.pm,q.c]
 rw[s]at Z;apply Z.mono;rintro e H⟨v1,A,m,rfl,⟨R,o',D⟩,a,-⟩;obtain rfl:v1=v:=by injection R
 have V:Loose fam m A H:=⟨a.d.c,a.d.g,a.d.d,a.d.e,a.d.os,λf=>a.e.1▸B.g f,a.e.2.2.trans B.b⟩;have O:=λx h=>a.j x (yg h c.f) λr n _ e=>by have:=loose_live B n;have:7<=q.f r:=this;lia
 refine⟨by rw[u],⟨a.d.os.trans (a.os.trans B.os.symm),a.o,a.q,a.l,λk hk hn=>a.j k hk λr n z e=>hn (e▸E r n z)⟩,λx=>∃r,7<=r/\r<A.heap.size/\m.f r=x,λx h=>?_,?_,Cl.a V a.m (bR c.g O)⟩;obtain⟨r,n,z,rfl⟩:=h;by_cases K:r<T;rw[a.c r K];exact .inl (E r n K);exact .inr (a.k r ω z);have hq:=D.c.a6;have I:∀r,(aY (tf q.MS F) T r/\r<A.heap.size)->7<=r:=λr h=>by rcases h.1 with C|C;exact(G r C).1;have:=B.c;lia
 have:=hq.e λr o h ho=>a.d.c r o (I r h) ho;rw[show m.f (q.i b)=b by rw[a.c _ y.2,q.c]]at this;exact⟨_,this.c λx h=>⟨m.i x,I _ h,h.2,m.c x⟩⟩
end
end
section
open Go.RowKit
open Go.Pm (Perm SupO FixS)
open Go.Cr (fam Tabs)
open Md (PS Grp Wf)
variable {i x:Nat}{F:ϑ}{S:PS}{v:Θ}{σ:Perm}
section
structure GQ(w:Δ)(gb pb:Nat)(bl:Nat->Nat)(Fp:Nat->ϑ)(Fn:ϑ)(G:Grp)(nv:Θ):Prop where
 net:cY w Fn gb (sT pb G.n G.n) G.c G.a nv
 d:af w pb 102 ((List.range G.n).map λi=>Value.pointer (some ⟨bl i,0,none⟩)).toArray
 c:∀i,i<G.n->PZ w (Fp i) (bl i) (G.b i)
 dis:∀i j x,i<G.n->j<G.n->Fp i x->Fp j x->i=j
 e:∀i x,i<G.n->Fp i x->¬Fn x
 a:∀i,i<G.n->¬Fp i gb/\¬Fp i pb
 r:¬Fn gb/\¬Fn pb
 t:gb≠pb
 bn:∀x,Fn x->x<w.heap.size
 q:∀i,i<G.n->Cl w (Fp i)
 g:7<=gb/\7<=pb
 u:∀x,Fn x->7<=x
def Wh(gb pb n:Nat)(Fp:Nat->ϑ)(Fn:ϑ):ϑ:=λx=>x=gb\/x=pb\/Fn x\/∃i,i<n/\Fp i x
def GY(w:Δ)(FG:ϑ)(gb:Nat)(G:Grp):Prop:=∃pb bl Fp Fn nv,GQ w gb pb bl Fp Fn G nv/\∀x,Wh gb pb G.n Fp Fn x->FG x
def GT(w w':Δ)(FG:ϑ)(gb:Nat)(G:Grp):Prop:=cW FG w w'/\GY w' (aY FG w) gb G
variable {w w' w1 w2:Δ}{gb pb:Nat}{bl:Nat->Nat}{Fp:Nat->ϑ}{Fn:ϑ}{G G1 G2:Grp}{nv:Θ}{FG:ϑ}
def GQ.s(g:GQ w gb pb bl Fp Fn G nv)(b:i<G.n)(a:Fp i x):x<w:=(g.q i b).j a
def GQ.lp(g:GQ w gb pb bl Fp Fn G nv)(b:i<G.n)(a:Fp i x):7<=x:=((g.q i b).d x a).1
def GQ.lw(g:GQ w gb pb bl Fp Fn G nv):7<=w.heap.size:=yr g.g.1 (Nat.le_of_lt g.net.a.f)
def GQ.b(g:GQ w gb pb bl Fp Fn G nv)(a:i<G.n):ε w pb i (.pointer (some ⟨bl i,0,none⟩)):=g.d.a i _ (by simp[a])
def GQ.c0(g:GQ w gb pb bl Fp Fn G nv):ε w gb 0 (sT pb G.n G.n):=g.net.a.y 0
def GQ.a0(g:GQ w gb pb bl Fp Fn G nv)(b:i<G.n)(a:cW (Fp i) w w'):ε w' gb 0 (sT pb G.n G.n):=(World.cell?_of_block (a.block gb g.net.a.f (g.a i b).1)).trans g.c0
def GQ.y(g:GQ w gb pb bl Fp Fn G nv)(b:i<G.n)(a:cW (Fp i) w w'):ε w' pb i (.pointer (some ⟨bl i,0,none⟩)):=(World.cell?_of_block (a.block pb g.d.f (g.a i b).2)).trans (g.b b)
def GQ.k(g:GQ w gb pb bl Fp Fn G nv)(d:∀x,Wh gb pb G.n Fp Fn x->w'.heap[x]?=w.heap[x]?)(e:∀x,x<7->w'.heap[x]?=w.heap[x]?)(b:w.heap.size<=w'):GQ w' gb pb bl Fp Fn G nv:=
 {g with net:=⟨(d gb (.inl rfl)).trans g.net.a,g.net.b.i λx a=>d x (.inr (.inr (.inl (g.net.b.c x a))))⟩,d:=(d pb (.inr (.inl rfl))).trans g.d,c:=λi c=>(g.c i c).a (λx a _=>d x (.inr (.inr (.inr ⟨i,c,a⟩)))) b,bn:=λx a=>yg (g.bn x a) b,q:=λi c=>(g.q i c).c (λx a=>d x (.inr (.inr (.inr ⟨i,c,a⟩)))) e b}
def GQ.z(g:GQ w gb pb bl Fp Fn G nv)(b:Wh gb pb G.n Fp Fn x):7<=x/\x<w:=by rcases b with rfl|rfl|h|⟨i,a,h⟩;exact⟨g.g.1,g.net.a.f⟩;exact⟨g.g.2,g.d.f⟩;exact⟨g.u x h,g.bn x h⟩;exact⟨g.lp a h,g.s a h⟩
def GQ.o(g:GQ w gb pb bl Fp Fn G nv)(b:Ϟ w w'):GQ w' gb pb bl Fp Fn G nv:=g.k (λx a=>b.block x (g.z a).2) (λx a=>b.block x (yg a g.lw)) b.size
def oG{e:ϟ}{k:Nat}{m:Nat}{h:Ϣ}(r:w.ownsRow 0 e k v m h)(f:∀g,v.ownBlock=some g->F g)(l:∀x,F x->7<=x)(a:FixS fam F σ):v.pm σ=v:=by
 rcases r.2 with ⟨b,-⟩|⟨g,d,j,b,-⟩
 .simp_all
 have c:=f g (by rw[b];rfl);have:=a.1 g (l g c) c;simp_all
def PQ.f{b:Nat}{o:Pl}(p:PQ w F b S o)(d:∀x,F x->7<=x):SupO fam F (.cells ((o.q S).c (sT o.kb S.n S.n) (.map (some o.m)) o.g o.d) 159 (0,0)):=by
 intro j a;have q:=a.1 o.kb (d _ p.a.z) p.a.z;have l:=a.1 o.m (d _ p.a.s) p.a.s;have f:=oG p.vote.d (λg c=>(p.vote.c g c).1) d a;have k:(eb o.c).pm j=eb o.c:=by rcases r:o.c with _|x;simp[eb];have e:=p.d x (.inl r);have:=a.1 x (d x e) e;simp[eb,Addr.pm,this]
 simp[Obj.pm,Pl.q,zc,Hd.c,f,k,(oG p.left.d (λg c=>p.d g (.inr (.inr c))) d a),(oG p.a.c.d (λg c=>p.a.c.c g c) d a),(oG p.a.f.d (λg c=>p.a.f.c g c) d a),Addr.pm,q,l]
def GQ.put(g:GQ w gb pb bl Fp Fn G nv)(h:i<G.n)(f:cW (Fp i) w w1)(C:PK w1 (aY (Fp i) w) (bl i) S):∃q,GQ w1 gb pb bl q Fn (G.Nk i S) nv/\∀x,Wh gb pb G.n q Fn x->aY (Wh gb pb G.n Fp Fn) w x:=by
 let ⟨A,l,B,s⟩:=C
 have z:=g.net.a.f;have r:=g.d.f;have m:=f.size;have o:∀j x,j<G.n->j≠i->Fp j x->w1.heap[x]?=w.heap[x]?:=λj x c t a=>f.block x (g.s c a) λe=>t (g.dis j i x c h a e);refine⟨λj x=>if j=i then A x else Fp j x,⟨⟨(f.block gb z (g.a i h).1).trans g.net.a,g.net.b.i λx a=>f.block x (g.net.b.k a) λe=>g.e i x h e (g.net.b.c x a)⟩,(f.block pb r (g.a i h).2).trans g.d,λj c=>?_,λj k x c u a b=>?_,λj x c a b=>?_,λj c=>?_,g.r,g.t,λx a=>yg (g.bn x a) m,λj c=>?_,g.g,g.u⟩,λx a=>?_⟩;show PZ w1 (λx=>if j=i then A x else Fp j x) _ (if j=i then S else G.b j);by_cases e:j=i;subst e;simp;exact B;simp only[if_neg e];exact(g.c j c).a (λx a _=>o j x c e a) m
 .by_cases e:j=i<;>by_cases p:k=i<;>simp only[e,p,if_true,if_false]at a b|-
  .exfalso
   rcases l x a with d|d;exact p (g.dis k i x u h b d);have:=g.s u b;lia
  .exfalso
   rcases l x b with d|d;exact e (g.dis j i x c h a d);have:=g.s c a;lia
  exact g.dis j k x c u a b
 .by_cases e:j=i
  .simp only[e,if_true]at a;rcases l x a with d|d;exact g.e i x h d b;have:=g.bn x b;lia
  simp only[if_neg e]at a;exact g.e j x c a b
 .by_cases e:j=i
  .simp only[e,if_true];refine⟨λd=>?_,λd=>?_⟩<;>rcases l _ d with y|y;exact(g.a i h).1 y
   .lia
   exact(g.a i h).2 y;lia
  simp only[if_neg e];exact g.a j c
 .by_cases e:j=i
  simp only[e,if_true];exact s;simp only[if_neg e];refine(g.q j c).c (λx a=>o j x c e a) (λx a=>f.block x (yg a g.lw) λe=>?_) m;have:=g.lp h e;lia
 rcases a with e|e|e|⟨j,c,e⟩;exact .inl (.inl e);exact .inl (.inr (.inl e));exact .inl (.inr (.inr (.inl e)));by_cases p:j=i;simp only[p,if_true]at e;rcases l x e with d|d;exact .inl (.inr (.inr (.inr ⟨i,h,d⟩)));exact .inr d;simp only[if_neg p]at e;exact .inl (.inr (.inr (.inr ⟨j,c,e⟩)))
def GQ.p(g:GQ w gb pb bl Fp Fn G nv)(c:i<G.n)(Y:G.a.length+(G.b i).e.length<=1000000):ϖ 62 #[pT gb 0,.pointer (some ⟨bl i,0,none⟩)] w λe m=>ϱ e ϳ/\cW (Wh gb pb G.n Fp Fn) w m/\∃B E,GQ m gb pb bl Fp B (G.MB i) E/\∀x,B x->aY Fn w x:=by
 let ⟨o,p⟩:=g.c i c
 refine(FY p.a g.net (λx a=>g.e i x c a) (g.a i c).1 ν).m ?_;rintro m⟨u,O,N,l⟩;have q:=u.size;have s:=g.q i c;have k:=p.a.t;have z:∀j x,j<G.n->j≠i->Fp j x->x≠bl i:=λj x b t a e=>t (g.dis j i x b c a (e▸k));have d:∀x,x<w.heap.size->x≠bl i->¬Fn x->x≠gb->m.heap[x]?=w.heap[x]?:=λx a h2 h3 W=>u.block x a λe=>by grind
 have r:=λx a t=>d x (g.s c a) t (g.e i x c a) λe=>(g.a i c).1 (e▸a);have A:=λx a=>d x (yg a g.lw) (λe=>ϕ (g.lp c k)) (λe=>ϕ (g.u x e)) λe=>ϕ g.g.1;have U:∀x,({o with d:=sN}:Pl).M (bl i) x->o.M (bl i) x:=λx a=>by rcases a with (h|h|h|h|h)|h;exact .inl (.inl h);exact .inl (.inr (.inl h));exact .inl (.inr (.inr (.inl h)));exact .inl (.inr (.inr (.inr (.inl h))));cases h;exact .inr h
 have K:jo (o.R (Fp i) (bl i)) (({o with d:=sN}:Pl).R (Fp i) (bl i)) w m:=⟨q,λx C _=>⟨⟨C.1,λh=>C.2 (U x h)⟩,r x C.1 λe=>C.2 (.inl (.inl e))⟩⟩;have P:∀x,o.X x->m.heap[x]?=w.heap[x]?:=λx a=>r x (p.d x a) λe=>p.h.nx a (.inl e);have Q:PQ m (Fp i) (bl i) {G.b i with e:=[]} {o with d:=sN}:=⟨O,p.ms,p.d,p.vote.f K,p.lead.a (o:=o) K P,p.left.c K λx a=>P x (.inr (.inr a))⟩;refine⟨rfl,u.e λx _ h=>?_,λx=>aY Fn w x/\x<m,N,⟨⟨l.a,l.b.d,λx a=>⟨l.b.c x a,l.b.k a⟩⟩,?_,λj b=>?_,g.dis,λj x b a D=>?_,g.a,⟨λh=>?_,λh=>?_⟩,g.t,λx a=>a.2,λj b=>?_,g.g,λx a=>?_⟩,λx a=>a.1⟩;rcases h with h|h|h;exact .inr (.inr (.inr ⟨i,c,h▸k⟩));exact .inr (.inr (.inl h));exact .inl h;exact(d pb g.d.f (λe=>(g.a i c).2 (e▸k)) g.r.2 λe=>g.t e.symm).trans g.d;show PZ m (Fp j) (bl j) (if j=i then {G.b i with e:=[]} else G.b j);by_cases e:j=i;subst e;rw[if_pos rfl];exact⟨_,Q⟩;rw[if_neg e];exact(g.c j b).a (λx a I=>d x I (z j x b e a) (g.e j x b a) λH=>(g.a j b).1 (H▸a)) q
 .rcases D.1 with f|f;exact g.e j x b a f;have:=g.s b a;lia
 .rcases h.1 with f|f;exact g.r.1 f;have:=g.net.a.f;lia
 .rcases h.1 with f|f;exact g.r.2 f;have:=g.d.f;lia
 .by_cases e:j=i
  .subst e;refine⟨bR s.g A,yr s.f q,λx a=>?_⟩
   let ⟨L,o',Z,hs⟩:=s.d x a
   by_cases T:x=bl j
   subst T;exact⟨L,_,O.a,Q.f λy V=>g.lp c V⟩;grind
  exact(g.q j b).c (λx a=>d x (g.s b a) (z j x b e a) (g.e j x b a) λH=>(g.a j b).1 (H▸a)) A q
 rcases a.1 with f|f;exact g.u x f;grind
def GQ.l(g:GQ w gb pb bl Fp Fn G nv)(d:cW (λx=>Fn x\/x=gb) w w'){k:List bC}{l:Θ}(m:cY w' (aY Fn w) gb (sT pb G.n G.n) G.c k l):∃j,GQ w' gb pb bl Fp j {G with a:=k} l/\∀x,j x->aY Fn w x:=by
 have q:=d.size;have r:=g.net.a.f;have o:=g.d.f;have f:=λi x c a=>d.block x (g.s c a) λe=>by rcases e with e|e;exact g.e i x c a e;exact(g.a i c).1 (e▸a)
 refine⟨λx=>aY Fn w x/\x<w',⟨⟨m.a,m.b.d,λx a=>⟨m.b.c x a,m.b.k a⟩⟩,(d.block pb o λe=>?_).trans g.d,λi c=>(g.c i c).a (λx a _=>f i x c a) q,g.dis,λi x c a p=>?_,g.a,⟨λh=>?_,λh=>?_⟩,g.t,λx a=>a.2,λi c=>(g.q i c).c (λx a=>f i x c a) (λx a=>d.block x (yg a g.lw) λe=>?_) q,g.g,λx a=>?_⟩,λx a=>a.1⟩;rcases e with e|e;exact g.r.2 e;exact g.t e.symm;rcases p.1 with b|b;exact g.e i x c a b;grind
 .rcases h.1 with b|b;exact g.r.1 b;lia
 .rcases h.1 with b|b;exact g.r.2 b;lia
 .rcases e with e|e
  .have:=g.u x e;lia
  have:=g.g.1;lia
 rcases a.1 with b|b;exact g.u x b;have:=g.lw;lia
def Wh.a{n:Nat}{b:ϑ}(h:∀x,b x->aY Fn w x)(x:Nat)(a:Wh gb pb n Fp b x):aY (Wh gb pb n Fp Fn) w x:=by rcases a with a|a|a|a;exact .inl (.inl a);exact .inl (.inr (.inl a));exact(h x a).imp (λh=>.inr (.inr (.inl h))) id;exact .inl (.inr (.inr (.inr a)))
def GY.c(g:GY w FG gb G){F':ϑ}(h:∀x,FG x->F' x):GY w F' gb G:=
 let ⟨d,e,c,j,f,g,b⟩:=g
 ⟨d,e,c,j,f,g,λx a=>h x (b x a)⟩
def GY.a(g:GY w FG gb G)(e:Ϟ w w'):GY w' FG gb G:=
 let ⟨c,d,b,h,f,g,a⟩:=g
 ⟨c,d,b,h,f,g.o e,a⟩
def GT.a(a:GT w w1 FG gb G1)(b:GT w1 w2 (aY FG w) gb G2):GT w w2 FG gb G2:=by have:=a.1.size;refine⟨a.1.c b.1,b.2.c λx c=>?_⟩;rcases c with h|h;exact h;exact .inr ω
def GT.b(a:GT w w1 FG gb G1)(b:Ϟ w1 w2):GT w w2 FG gb G1:=⟨a.1.c (cW.d b),a.2.a b⟩
def GQ.f(g:GQ w gb pb bl Fp Fn G nv)(p:∀x,Wh gb pb G.n Fp Fn x->FG x)(k:i<G.n)(b:cW (Fp i) w w1)(z:PK w1 (aY (Fp i) w) (bl i) S)(y:G.a.length+S.e.length<=1000000):ϖ 62 #[pT gb 0,.pointer (some ⟨bl i,0,none⟩)] w1 λe r=>ϱ e ϳ/\GT w r FG gb ((G.Nk i S).MB i):=by
 let ⟨f,t,c⟩:=g.put k b z
 have m:(G.Nk i S).b i=S:=if_pos rfl;apply (t.p k (by rwa [m])).m;rintro r⟨a,j,o,u,l⟩;have q:=b.size;refine⟨rfl,⟨a.os.trans b.os,a.tape.trans b.tape,a.output.trans b.output,yr q a.size,λx d s=>?_⟩,pb,bl,f,j,o,u,λx d=>?_⟩
 .refine(a.block x (yg d q) λe=>?_).trans (b.block x d λe=>s (p x (.inr (.inr (.inr ⟨i,k,e⟩)))));rcases c x e with h|h;grind;lia
 rcases Wh.a l x d with h|h;exact(c x h).imp (p x) id;exact .inr ω
end
variable {w w':Δ}{gb:Nat}{FG:ϑ}{G:Grp}{X:Nat}
def af.vm{w:Δ}{T:ϟ}{e g i f k d c j:Θ}(h:af w X T #[e,g,i,f,k,d,c,j]):ε w X 0 e/\ε w X 1 g/\ε w X 2 i/\ε w X 3 f/\ε w X 4 k/\ε w X 5 d/\ε w X 6 c/\ε w X 7 j/\w.frozen? (aT X 0)=false/\w.frozen? (aT X 1)=false/\w.frozen? (aT X 2)=false/\w.frozen? (aT X 3)=false/\w.frozen? (aT X 4)=false/\w.frozen? (aT X 5)=false/\w.frozen? (aT X 6)=false/\w.frozen? (aT X 7)=false:=
 ⟨h.a 0 _ rfl,h.a 1 _ rfl,h.a 2 _ rfl,h.a 3 _ rfl,h.a 4 _ rfl,h.a 5 _ rfl,h.a 6 _ rfl,h.a 7 _ rfl,h.b 0,h.b 1,h.b 2,h.b 3,h.b 4,h.b 5,h.b 6,h.b 7⟩
def QT{w:Δ}{T:ϟ}{y z v s r l m n:Θ}(h:af w X T #[y,z,v,s,r,l,m,n])(a c b f g k i j:Θ):af ((((((((w.setCell ⟨X,0,none⟩ a).setCell ⟨X,1,none⟩ c).setCell ⟨X,2,none⟩ b).setCell ⟨X,3,none⟩ f).setCell ⟨X,4,none⟩ g).setCell ⟨X,5,none⟩ k).setCell ⟨X,6,none⟩ i).setCell ⟨X,7,none⟩ j) X T #[a,c,b,f,g,k,i,j]/\ej X w ((((((((w.setCell ⟨X,0,none⟩ a).setCell ⟨X,1,none⟩ c).setCell ⟨X,2,none⟩ b).setCell ⟨X,3,none⟩ f).setCell ⟨X,4,none⟩ g).setCell ⟨X,5,none⟩ k).setCell ⟨X,6,none⟩ i).setCell ⟨X,7,none⟩ j):=
 have B:=h.e 0 a;have q:=B.e 1 c;have o:=q.e 2 b;have x:=o.e 3 f;have p:af _ X T #[a,c,b,f,g,l,m,n]:=x.e 4 g;have u:=p.e 5 k;have A:=u.e 6 i;have t:af _ X T #[a,c,b,f,g,k,i,j]:=A.e 7 j
 ⟨t,((((((((ej.d X w).a 0 a).a 1 c).a 2 b).a 3 f).a 4 g).a 5 k).a 6 i).a 7 j⟩
def Qt(d c:ϣ)(n f j:Nat)(w:Δ)(t:n<=6)(h:∀k,k<n->∃(g b:Nat)(x:Int),d=some ⟨g,0,none⟩/\c=some ⟨b,0,none⟩/\ε w g k (J x)/\ε w b k (J x)):Calls prog 63 #[.slice d n f,.slice c n j] w λe o=>ϱ e (.bool true)/\∃m,o=w.drewN m:=by
 have l:=ah h;go_wp2;go_loopw [5] (λi p=>∃k:Nat,k<=n/\i=J k/\∃m,p=w.drewN m) λi _=>n-(intOf i).toNat
 case atStart=>exact⟨0,ω,rfl,0,rfl⟩
 case round=>
  obtain⟨k,u,rfl,m,rfl⟩:=hrel;by_cases a:k<n
  .obtain⟨s,v,x,rfl,rfl,r,q⟩:=l k a;go_wp2;go_quiet (fail);go_wp2;go_roundw
   case rel=>exact⟨k+1,ω,by go_num,_,rfl⟩
   case measure=>simp[intOf];lia
  go_wp2
  go_ret;exact⟨rfl,m,rfl⟩
def QC(a b c:Int)(w:Δ)(Q:j7 a)(R:j7 b)(P:j7 c):ϖ 26 #[.agg #[J a,J b,J c]] w λe k=>ϱ e (.agg #[J ((1+bw a 6:Nat):Int),J ((1+bw b 8:Nat):Int),J 4000])/\Ϟ w k:=by
 have F:Hid (∀k,ϖ 14 #[.agg #[J a,J b,J c]] k λe I=>ϱ e (.agg #[J ((1+bw a 6:Nat):Int),J ((1+bw b 8:Nat):Int),J ((1+bw c 4000:Nat):Int)])/\Ϟ k I):=λk=>BP a b c k Q R P;generalize (1+bw a 6)=p at F|-;generalize (1+bw b 8)=q at F|-;generalize (1+bw c 4000)=r at F;have o:=(af.d w _ rfl 23 #[J a,J b,J c]).g (.cells #[J 0,J 0,J 0] 23);have V:=af.d (w.alloc (.cells #[J a,J b,J c] 23)) (w.heap.size+1) ς 23 #[J 0,J 0,J 0];have E:Hid (Ϟ w ((w.alloc (.cells #[J a,J b,J c] 23)).alloc (.cells #[J 0,J 0,J 0] 23))):=(Ϡ.alloc Ϫ _).alloc ς _;have HX:=ah o;have HY:=ah V;have Z:Hid (((w.alloc (.cells #[J a,J b,J c] 23)).alloc (.cells #[J 0,J 0,J 0] 23))=w.heap.size+2):=by simp[Hid]
 have T:=o.a 0 _ rfl;have U:=o.a 1 _ rfl;have Y:=o.a 2 _ rfl;simp only[yf,yd,ye]at T U Y;clear o V Q R P;go_enter func26,ntmps26;go_wp21;apply (F _).mono;rintro _ w2⟨rfl,j⟩;have f:=HX.c j (by rw[Z];lia);have g:=HY.c j ς;have N:=ah (E.trans (j.mono E.size));obtain⟨m,D⟩:=jXa f (J p) (J q) (J r);have l:=ah (m.e 2 (J 4000));have x:=ah (D.a 2 (J 4000));have K:Hid (af w2 (w.heap.size+1) 23 #[J 0,J 0,J 0]):=g;have s:=f.a 0 _ rfl;have t:=f.a 1 _ rfl;have u:=f.a 2 _ rfl;have f0:=f.b 0;have f1:=f.b 1;have f2:=f.b 2;have B:=g.a 0 _ rfl;have C:=g.a 1 _ rfl;have y:=g.a 2 _ rfl;have H:=g.b 0;have M:=g.b 1;have L:=g.b 2;simp only[yf,yd,ye]at s t u B C y;clear f g m D T U Y j B C y H M L;have v:=(x.block _ ω).trans K;have h:Hid (af _ (w.heap.size+1) 23 #[J 0,J 0,J 0]):=v;have O:=l.a 0 _ rfl;have S:=l.a 1 _ rfl;have W:=l.a 2 _ rfl;have B:=h.a 0 _ rfl;have C:=h.a 1 _ rfl;have y:=h.a 2 _ rfl;have H:=h.b 0;have M:=h.b 1;have L:=h.b 2;simp only[yf,yd,ye]at O S W B C y;clear v;go_wp21;clear O S W;obtain⟨i,z⟩:=jXa h _ (J q) (J 4000);have A:=(N.trans (x.c Ϫ)).trans (z.c (Nat.le_succ _));refine DU (p:=bodyPost _ _ _ _ _) _ λwf n=>?_;rw[<-n]at i A;clear n z s t u f0 f1 f2 B C y H M L;have s:=i.a 0 _ rfl;have t:=i.a 1 _ rfl;have u:=i.a 2 _ rfl;simp only[yf,yd,ye]at s t u;exact bodyPost_ret (v:=.agg #[J p,J q,J 4000]) (by simp[results,results26,go_sem,s,t,u]) rfl ⟨rfl,A⟩
def GT.QV(g:GY w FG gb G):GT w w FG gb G:=⟨cW.j _ _,g.c aY.c⟩
end
section
open Go.RowKit
open Md (PS Vote Bal Lft Wf MsgW Sends)
variable {w w':Δ}{F:ϑ}{b:Nat}{S:PS}{o:Pl}
def bI.a{R:ϑ}{v:Θ}{l:List ϥ}(h:bI w R v l):∃e n c,v=.slice e n c:=by rcases h with ⟨⟨_,_,a⟩,-⟩|⟨g,d,a,-⟩;exact⟨_,_,_,a⟩;exact⟨_,_,_,a⟩
def DR(S:PS)(B:Bal)(T:PS)(q:Nat):Codec.Frame:=⟨5,0,q,T.a.m,T.b,B.g,0,[],T.a.a,S.Mm S.a.a⟩
def xS(S:PS)(B:Bal)(T:PS)(q:Nat):PS:=T.MZ (DR S B T q)
def jO(S:PS)(B:Bal):Ϙ:=Md.iX (Md.cX B.a B.d) S.n
def kS(p:PP w F b S o)(wf:Wf S){x:Nat}{B:Bal}(C:o.c=some x)(hL:S.d=some B)(a6:S.a.a.length=S.n)(hs:S.e.length<=900000):ϖ 197 #[pT b 0] w λe d=>ϱ e ϳ/\∃a,To w F b o d (S.Mj B) {o with d:=a}:=by
 have P:=p.a.a 13 _ rfl;rw[C]at P;have Q:=p.a.a 12 _ rfl;simp only[eb,yf,yd,ye]at P Q;have hW:=wf.lead B hL
 let ⟨M,I,G,E⟩:=p.vote.a
 rw[E]at Q;have a9:Hid (ϖ 240 #[pT b 0,.slice M I G] w λe d=>Ϟ w d/\∃v,ϱ e v/\bI d (o.R F b) v (S.Mm S.a.a)):=by have:=lA p wf p.vote a6;rwa [E]at this
 have HC:Hid (∀d,Ϟ w d->ε d x 3 (J B.a)/\ε d x 5 (J B.d)):=λd hw=>⟨((p.c hw).f C hL).c.a 3 _ rfl,((p.c hw).f C hL).c.a 5 _ rfl⟩;have W:Hid (∀d,Ϟ w d->ϖ 164 #[pT b 0,J (bits .andNot .i64 B.a B.d)] d λe a0=>∃v,ϱ e v/\a0.ownsRow d 3 1 v (jO S B).length (cz (jO S B))/\Ϟ d a0):=λd hw=>(cK hW.asked hW.acc).1▸tR (p.c hw) wf _;have b2:(jO S B).length<=6:=yr (gG _ S.n) wf.c;have r:Hid (∀D t v mv,Ϟ w D->bI D (o.R F b) mv (S.Mm S.a.a)->Ϟ D t->t.ownsRow D 3 1 v (jO S B).length (cz (jO S B))->∃ao c,v=.slice ao (jO S B).length c/\(∃a,To t F b o t (aG (xS S B) (jO S B) S 0) {o with d:=a})/\(∀wr a,To t F b o wr (aG (xS S B) (jO S B) S (jO S B).length) {o with d:=a}->∃a,To w F b o wr (S.Mj B) {o with d:=a})/\∀(k:Nat)wr a,k<(jO S B).length->To t F b o wr (aG (xS S B) (jO S B) S k) {o with d:=a}->∃q g:Nat,ao=some ⟨g,0,none⟩/\ε wr g k (J q)/\(ε wr b 6 (J S.b)/\ε wr b 11 (J S.a.m)/\ε wr b 12 (.slice M I G)/\ε wr x 0 (J B.g))/\ϖ 165 #[pT b 0,.agg #[J 5,J 0,J q,J S.a.m,J S.b,J B.g,J 0,sN,.slice M I G,mv]] wr.drew λe U=>ϱ e ϳ/\(∃a,To t F b o U (aG (xS S B) (jO S B) S (k+1)) {o with d:=a})/\(ε U b 6 (J S.b)/\ε U b 11 (J S.a.m)/\ε U b 12 (.slice M I G)/\ε U x 0 (J B.g))):=λD t v mv s z A l=>by
  have H:=s.trans (A.mono s.size);have p1:=p.c H;have a8:=z.c ((p.c s).d A).d
  let ⟨ao,c,hv,_⟩:=fN (w':=t) l λ_ _ _=>rfl
  refine⟨ao,c,hv,⟨o.d,To.f p1⟩,λwr a h=>⟨a,(p.d H).a (by rwa [iH]at h)⟩,λk wr a hk h=>?_⟩;have a2:=yh hk
  let ⟨b8,c',a5,X⟩:=fN (w':=wr) l λg hg N=>h.e.block g N λe=>ϵ (p.h e) s.size
  rw[hv]at a5;injection a5 with e1 _ _;subst e1
  let ⟨g,hg,hc⟩:=X k _ a2
  have y:∀{d a k},PP d F b (aG (xS S B) (jO S B) S k) {o with d:=a}->(ε d b 6 (J S.b)/\ε d b 11 (J S.a.m)/\ε d b 12 (.slice M I G)/\ε d x 0 (J B.g))/\aw d d.heap.size (.slice M I G) S.a.a:=λ{d a k}Y=>by have b4:Sends S (aG (xS S B) (jO S B) S k) k:=fa (λT q=>Md.ak T _) _ k;rw[b4.e]at Y;have hB:=Y.f C hL;rw[<-E];exact⟨⟨Y.a.a 6 _ rfl,Y.a.a 11 _ rfl,Y.a.a 12 _ rfl,hB.c.a 0 _ rfl⟩,aX Y.vote.d⟩
  refine⟨_,g,hg,hc,(y h.c).1,?_⟩;have O:Ϟ wr wr.drew:=Ϡ.drew;refine(rP (fr:=DR S B) (λ_ _=>rfl) (λT q e=>by unfold DR;rw[e]) h a2 ω O (rv:=sN) (cv:=.slice M I G) (mv:=mv) (.inl ⟨⟨_,_,rfl⟩,rfl⟩) (y (h.c.c O)).2 ((a8.c h.d).c (h.c.d O).d).at).mono ?_;rintro e U⟨rfl,b3,h3⟩;exact⟨rfl,⟨b3,h3⟩,(y h3.c).1⟩
 clear p wf hL hs hW C a6 E;generalize jO S B=L at r b2 W;go_enter func197,ntmps197;go_wp21;apply a9.mono;rintro e D⟨s,mv,rfl,z⟩;obtain⟨mo,mn,mk,rfl⟩:=z.a;have u:=ah s;have Z:=ah z;clear s z a9 Q P;go_wp21;refine wp_region_held_drew (S:=λd=>ε d x 3 (J B.a)/\ε d x 5 (J B.d)) rfl (HC _ u.drew) λhHeld=>?_;(iterate 10 refine ψ ?_);apply wk 12;refine we 10 λK hK=>?_;go_simp;apply (W _ u.drew).mono;rintro e t⟨v,rfl,l,A⟩;have V:Ϟ D t:=(Ϡ.drew).trans (A.mono ς);obtain⟨ao,c,rfl,h0,hE,a3⟩:=r D t v _ u Z V (ϰ l);have H0:=ah h0;have HE:=ah hE;have HS:=ah a3;have b0:=HC t (u.trans (V.mono u.size));clear h0 hE a3 l A V r W Z u;go_wp21;refine hK.out _ _ b0 λhHeld=>?_;clear hK K;try simp only[pU]
 apply wk 11;refine wpAnyH_done κ ?_ _;clear hHeld HC b0;go_wp21;go_loopw [29] (λi wr=>∃k:Nat,k<=L.length/\i=J k/\∃a,To t F b o wr (aG (xS S B) L S k) {o with d:=a}) λi _=>L.length-(intOf i).toNat
 case atStart=>exact⟨0,ω,rfl,H0⟩
 case round=>
  obtain⟨k,hk,rfl,a,ht⟩:=hrel;by_cases N:k<L.length
  .have b6:k<L.length:=ω;have b9:0<=k:=ω;obtain⟨q,g,rfl,cg,a7,hc⟩:=HS k wr a N ht;have a4:=ah hc;clear hc ht HS;go_wp21;refine wp_region_held_drew (S:=λd=>ε d b 6 (J S.b)/\ε d b 11 (J S.a.m)/\ε d b 12 (.slice M I G)/\ε d x 0 (J B.g)) rfl a7 λhHeld=>?_;(iterate 22 refine ψ ?_);refine we 22 λK hK=>?_;go_simp;apply a4.mono;rintro e U⟨rfl,a1,b1⟩;have H3:=ah a1;clear a1 a4;go_wp21;refine hK.out _ _ b1 λhHeld=>?_;clear hK K;try simp only[pU]
   refine wpAnyH_done κ ?_ _;clear hHeld b1 a7;go_wp21;exact⟨⟨k+1,ω,by go_num,H3⟩,by simp[intOf];lia⟩
  have b7:¬(k:Int)<(L.length:Int):=ω;have b5:k=L.length:=ω;have HT:Hid (∃a,To w F b o wr (S.Mj B) {o with d:=a}):=HE wr a (by rwa [<-b5]);clear ht HS HE;go_wp21;go_end0;exact⟨rfl,HT⟩
def kT(p:PP w F b S o)(q:Nat)(a:Int)(e:Lft)(H:S.e.length<=1000000){z A:Θ}(r:aw w w.heap.size z e.a)(u:ba w w.heap.size A e.b):ϖ 208 #[pT b 0,J q,J a,.agg #[J e.m,z,A]] w λv k=>ϱ v ϳ/\∃c,To w F b o k (S.ME q a e) {o with d:=c}:=by
 obtain⟨n,t,j,rfl⟩:=r.b;obtain⟨i,s,g,rfl⟩:=u.b;obtain⟨f,B,y⟩:=e;simp only at r u|-;have d:Ϟ w (w.alloc (.cells #[J f,.slice n t j,.slice i s g] 249)):=Ϡ.alloc Ϫ _;have x:Hid (ϖ 165 #[pT b 0,.agg #[J 7,J 0,J q,J f,J a,J 0,J 0,sN,.slice n t j,.slice i s g]] (w.alloc (.cells #[J f,.slice n t j,.slice i s g] 249)) λv k=>ϱ v ϳ/\∃c,To w F b o k (S.ME q a ⟨f,B,y⟩) {o with d:=c}):=by apply (E6 (p.c d) ⟨7,0,q,f,a,0,0,[],B,y⟩ H (rv:=sN) (.inl ⟨⟨_,_,rfl⟩,rfl⟩) ((r.a d).d d.size) ((u.a d).d d.size)).mono;rintro e k⟨rfl,c,h⟩;exact⟨rfl,c,(p.d d).a h⟩
 have l:=af.d w w.heap.size rfl 249 #[J f,.slice n t j,.slice i s g];have D:=l.a 0 _ rfl;have E:=l.a 1 _ rfl;have G:=l.a 2 _ rfl;simp only[yf,yd,ye]at D E G;clear p r u l;go_enter func208,ntmps208;go_wp21;apply x.mono;rintro e K⟨rfl,C⟩;have I:=ah C;clear C x;go_wp21;go_end0;exact⟨rfl,I⟩
def PP.a8(p:PP w F b S o){l j:Δ}(q:Ϟ w l)(i:l.grownBy j o.g.ownBlock){g a:Nat}{e:Ev}(c:j.ownsRow 0 64 6 (sT g (S.j.length+1) a) (S.j.length+1) (az S.j++e.f))(m:o.g.ownBlock=some g\/w.heap.size<=g):∃r,To w F b o (j.setCell ⟨b,17,none⟩ (sT g (S.j.length+1) a)) (S.Ng e) r:=
 let ⟨f,k⟩:=p.e.a4 q i c m
 ⟨_,p.step (f.e λx _ n=>n.elim .inl λe=>.inr (.inr (.inr (.inl e)))) (λ_ h=>h) (λs d=>by cases d;exact m) (λ_ h=>.inl h) k p.ms rfl rfl rfl⟩
def xX(p:PP w F b S o)(Q:Md.Lq S):Do 290 #[pT b 0] ϳ w F b o S.Na:=by
 obtain⟨U,I,E,M,D⟩:=info_parts mw;have A:=p.a;have t:=A.b 4;have T:=A.a 4 _ rfl;simp only[yf,yd,ye]at T;have P:To w F b o (w.setCell ⟨b,4,none⟩ (.bool true)) {S with out:=true} o:=p.head (cW.a 4 _) (A.e 4 _) rfl rfl rfl rfl rfl rfl p.vote (.inl ⟨rfl,rfl⟩);have H:=ah P;have a0:S.j.length<=1000000000000:=ϕ Q.evs;clear p Q A P;go_enter func290,ntmps290;go_wp21;generalize w.setCell _ _=d at H|-;have m:=ah H.c;have f:=ah m.e.a.f;have G:=m.a.a 6 _ rfl;have n:=m.a.a 17 _ rfl;simp only[yf,yd,ye]at G n;have y:Hid (∀r,Ϟ d r->ε r b 6 (J S.b)/\ε r b 17 o.g):=λr N=>⟨(N.cell (p:=(aT b 6)) f).trans G,(N.cell (p:=(aT b 17)) f).trans n⟩;clear G n T t;refine gl.b (λr=>ε r b 6 _/\r.cell? _=some o.g) 14 rfl (y _ Ϡ.drew) λa=>?_;(iterate 10 refine χ ?_);refine te 10 λK i=>?_;go_simp;have c:Hid (Ϟ d (d.alloc (.cells #[J 4,J S.b,J 0,J 0,J 0,.string ⟨#[]⟩] 64)).drew):=(Ϡ.alloc Ϫ _).drew;refine i.out _ _ (λ_=>y _ c) λa=>?_;clear i K;try simp only[pU]
 have B:Hid (af (d.alloc (.cells #[J 4,J S.b,J 0,J 0,J 0,.string ⟨#[]⟩] 64)).drew d.heap.size 64 #[J 4,J S.b,J 0,J 0,J 0,.string ⟨#[]⟩]):=(af.d d d.heap.size rfl 64 _).i;have q:Hid ((d.alloc (.cells #[J 4,J S.b,J 0,J 0,J 0,.string ⟨#[]⟩] 64)).drew.heap.size=d.heap.size+1):=by simp[Hid]
 generalize (d.alloc (.cells #[J 4,J S.b,J 0,J 0,J 0,.string ⟨#[]⟩] 64)).drew=V at c B q a|-;refine te 11 λK i=>?_;apply step_append_lies V rfl (.tmp 9) (.tmp 15) 35 rfl 0 64 U _ 6 56 underlying35 I E M D rfl θ o.g S.j.length (az S.j) rfl (aQ m.e.c.d c) (aT d 0) 1 1 (Ev.f ⟨4,S.b,0,0,0,⟨#[]⟩⟩) rfl rfl (World.news_of_block B) (by intro u R;simp only[Ev.f,yF,yU,or_false]at R;rcases R with rfl|rfl|rfl|rfl|rfl|rfl<;>rfl) ω (by simp[maxLen];lia) ω (oI _) (d.heap.size+1) q;intro g Y L l j v C;have z:some b≠o.g.ownBlock:=λe=>m.e.c.o e.symm m.e.a θ rfl;have k:=yg f c.size;have s:Hid (ε L b 6 (J S.b)/\ε L b 17 o.g):=
  have O:=y _ c
  ⟨(j.cell_far ⟨b,6,none⟩ k z).trans O.1,(j.cell_far ⟨b,17,none⟩ k z).trans O.2⟩
 have x:=ah (m.a8 c j (e:=⟨4,S.b,0,0,0,⟨#[]⟩⟩) l (v.imp id λe=>by lia));have W:L.frozen? (aT b 17)=false:=by rw[j.frozen_far ⟨b,17,none⟩ k z];exact(m.e.a.c c f).b 17
 clear l j v C a B q c y z k;refine i.out _ _ (λ_=>s) λa=>?_;clear i K;try simp only[pU]
 have a:=a θ;refine te 12 λK i=>?_;go_simp;refine i.out _ _ (λ_=>s) λa=>?_;clear i K;try simp only[pU]
 refine te 13 λK i=>?_;go_simp;refine i.out _ _ (λ_=>s) λa=>?_;clear i K;try simp only[pU]
 have a:=a θ;refine te 14 λK i=>?_;go_simp;refine i.out _ _ (λh=>absurd rfl h) λ_=>?_;clear i K;try simp only[pU]
 refine gl.done κ ?_ _;go_wp21;go_end0;obtain⟨Z,X⟩:=x;exact⟨rfl,Z,H.a X⟩
open Go.ChangeMaps (setBlock)
variable {kn:List (Υ)}{n:Nat}
def Fh(n:Nat):(Builtin.zeroCells (Value.int .i64 0).cells n).toList=List.replicate n (J 0):=by have e:(Value.int .i64 0).cells=#[J 0]:=rfl;rw[e];simp only[Builtin.zeroCells,yV,Array.toList_range,yJ,yx,yD,yS,Nat.mul_one,Nat.mod_one];rw[List.eq_replicate_iff];refine⟨ς,λx a=>?_⟩;obtain⟨i,-,rfl⟩:=yW.1 a;rfl
def Ei(w:Δ)(r n c:Nat)(k:n≠0){l:Υ}(i:l.length=n)(g:af w r 3 (ints l).toArray):∃d,(Builtin.clear_ #[69] 0 #[sT r n c]).run prog w=.ok ϳ d/\cW (λx=>x=r) w d/\d.heap.size=w.heap.size/\af d r 3 (ints (List.replicate n 0)).toArray:=by
 have j:=zeroValue3 w;have a:=run_storeCells_at prog r 0 3 (List.replicate n (J 0)) 0 _ w g (by simp[ints,i]) (by intro v h;rw[List.mem_replicate]at h;rw[h.2];rfl);have e:((ints l).toArray.toList.take (0+0)++List.replicate n (Value.int .i64 0)++(ints l).toArray.toList.drop (0+0+(List.replicate n (Value.int .i64 0)).length)).toArray=(ints (List.replicate n 0)).toArray:=by rw[Lf (by simp[ints,i])];simp[ints]
 rw[e]at a;refine⟨w.setRow r _,?_,⟨rfl,rfl,rfl,by simp[World.setRow],λx _ f=>setRow_other _ _ _ _ f⟩,by simp[World.setRow],setRow_heap w r _ _ 3 _ g⟩;cases n with
 |zero=>exact absurd rfl k
 |succ m=>
  simp only[Builtin.clear_,ya7,AH,Sem.run_bind,run_underlying underlying69,Result.andThen,j,Fh,a,Sem.run_pure]
def PP.b1(p:PP w F b S o){q r:Nat}(e:o.k[q]?=some r){row':Υ}(g:row'.length=S.n)(a:cW (λx=>x=r) w w')(f:af w' r 3 (ints row').toArray):To w F b o w' {S with q:=S.q.set q row'} o:=
 p.step (a.e λ_ _ c=>.inr (.inr (.inl (c▸yy e)))) (λ_ h=>.inl h) (λ_ h=>.inl h) (λ_ h=>.inl h) (p.e.a0 e g (λx c d=>a.block x c d) f) p.ms rfl rfl rfl
def gK(kn:List (Υ))(n k:Nat):List (Υ):=List.replicate k (List.replicate n 0)++kn.drop k
def Cv{k:Nat}(a:k<kn.length):(gK kn n k).set k (List.replicate n 0)=gK kn n (k+1):=by unfold gK;rw[List.set_append_right _ _ ς,I2,Nat.sub_self,List.drop_eq_getElem_cons a,List.set_cons_zero,List.replicate_succ',I3];rfl
def Cu(h:∀r∈kn,r.length=n):gK kn n kn.length=kn.map λr=>List.replicate r.length 0:=by unfold gK;rw[List.drop_length,IX,eq_comm,List.eq_replicate_iff];refine⟨ς,λx a=>?_⟩;obtain⟨r,c,rfl⟩:=yW.1 a;rw[h r c]
def Eh(w:Δ){c:Nat}{e:Array MapEntry}{a:Nat}(d:w.heap[c]?=some (.map e a)):(Builtin.clear_ #[156] 0 #[.map (some c)]).run prog w=.ok ϳ (setBlock w c (.map #[] a)):=by simp only[Builtin.clear_,ya7,AH,Sem.run_bind,run_underlying underlying156,Result.andThen,MapKept.run_getObj_map d,MapKept.run_setObj_map _ d,Sem.run_pure];rfl
def PP.a9(p:PP w F b S o):To w F b o (setBlock w o.m (.map #[] o.j)) {S with o:=[]} {o with l:=[],n:=#[]}:=
 have c:=ep p.e.map (.map #[] o.j);p.step (cW.f c λx a=>by injection a with a;subst a;exact .inr (.inl rfl)) (λ_ h=>.inl h) (λ_ h=>.inl h) (λ_ h=>.inl h) (p.e.y c (jV p.e.map _) ⟨rfl,rfl,ς,ς⟩ List.Pairwise.nil λx a=>by cases a) rfl rfl rfl rfl
def dM(S:PS)(m:Int):PS:={S with b:=S.b+1,m:=m,k:=Md.fK S.k m,h:=false,g:=0,a:=⟨0,0,[]⟩,d:=none}
def PP.y(p:PP w F b S o)(m:Int):To w F b o ((((((((((w.setCell ⟨b,6,none⟩ (J (S.b+1))).setCell ⟨b,7,none⟩ (J m)).setCell ⟨b,8,none⟩ (J (Md.fK S.k m))).setCell ⟨b,5,none⟩ (.bool false)).setCell ⟨b,9,none⟩ (J 0)).setCell ⟨b,10,none⟩ (J 0)).setCell ⟨b,11,none⟩ (J 0)).setCell ⟨b,12,none⟩ (sN)).setCell ⟨b,13,none⟩ (.pointer none))) (dM S m) {o with h:=sN,c:=none}:=by have a:=((((((((p.a.e 6 (J (S.b+1))).e 7 (J m)).e 8 (J (Md.fK S.k m))).e 5 (.bool false)).e 9 (J 0)).e 10 (J 0)).e 11 (J 0)).e 12 (sN)).e 13 (.pointer none);simp only[Li,List.set_cons_succ,List.set_cons_zero]at a;exact p.head (cW.i ((((((((((ej.d b w).a _ _).a _ _).a _ _).a _ _).a _ _).a _ _).a _ _).a _ _).a _ _) rfl) a rfl rfl rfl rfl rfl rfl ⟨World.ownsRow_nil w 0 3 1,λg d=>by cases d⟩ (.inr ⟨rfl,rfl⟩)
def Em(p:PP w F b S o)(C:Md.Lq S){m:Int}(hm:Md.bj m):Do 289 #[pT b 0,J m] ϳ w F b o (S.enter m):=by
 let ⟨i0,b1,b4,a9,a3⟩:=info_parts mw
 have B0:=ah p.a;have a7:wrap64 (S.b+1)=S.b+1:=by have:=C.view;unfold wrap64;lia
 have M:=(cK C.sus hm).2.1;have c2:S.j.length<=1000000000000:=ϕ C.evs;have HK:Hid (S.q.length=S.n/\∀r∈S.q,r.length=S.n):=⟨C.a,λr hr=>(C.kn r hr).1⟩;have d1:=C.c;have t:=ah ((p.y m));go_enter func289,ntmps289;refine wp_seq_k λK c=>?_;have d:=ah c;clear c;have N:=B0.y 6;have f6:=B0.b 6;simp at N;go_wp21;apply d;have P:=B0.e 6 (J (S.b+1));simp at P;generalize w.setCell _ _=w1 at P t|-;refine wp_seq_k λK c=>?_;have d:=ah c;clear c;have c7:=P.y 7;have f7:=P.b 7;simp at c7;have X:=ah P;go_wp21;apply d;have O:=X.e 7 (J m);simp at O;generalize w1.setCell _ (J m)=B at O t|-;refine wp_seq_k λK c=>?_;have d:=ah c;clear c;have c8:=O.y 8;have f8:=O.b 8;simp at c8;have V:=ah O;clear O X;go_wp21;apply d;clear d K c8 f8;have B3:=V.e 8 (J (Md.fK S.k m));simp at B3;generalize B.setCell _ _=w3 at B3 t|-;refine wp_seq_k λK c=>?_;have d:=ah c;clear c;have c5:=B3.y 5;have c9:=B3.y 9;have a1:=B3.y 10;have a0:=B3.y 11;have U:=B3.y 12;have T:=B3.y 13;have f5:=B3.b 5;have f9:=B3.b 9;have b6:=B3.b 10;have b3:=B3.b 11;have b5:=B3.b 12;have a4:=B3.b 13;simp at c5 c9 a1 a0 U T;clear B3 V;go_wp21;apply d;clear d K c5 c9 a1 a0 U T f5 f9 b6 b3 b5 a4;have c3:Hid ((dM S m).n=S.n/\(dM S m).q=S.q):=⟨rfl,rfl⟩;generalize ((((((w3.setCell ⟨b,5,none⟩ (.bool false)).setCell ⟨b,9,none⟩ (J 0)).setCell ⟨b,10,none⟩ (J 0)).setCell ⟨b,11,none⟩ (J 0)).setCell ⟨b,12,none⟩ (sN)).setCell ⟨b,13,none⟩ (.pointer none))=w4 at t|-;have Y:=t.c.a.y 14;simp only[dM,yf,yd,ye]at Y;have H0:=ah t;have l:Hid (∀(k:Nat)wr,k<S.n->To w F b o wr {dM S m with q:=gK S.q S.n k} {o with h:=sN,c:=none}->∃r B,ε wr o.kb k (sT r S.n S.n)/\(Builtin.clear_ #[69] 0 #[sT r S.n S.n]).run prog wr=.ok ϳ B/\To w F b o B {dM S m with q:=gK S.q S.n (k+1)} {o with h:=sN,c:=none}):=λk wr hk h=>by
  let ⟨r,hr,b9,b8,b0⟩:=h.c.e.m (q:=k) hk
  let ⟨B,A,c0,_,a6⟩:=Ei wr r S.n S.n (ϕ C.b) b8 b9
  refine⟨r,B,b0,A,?_⟩;have h3:=h.a (h.c.b1 hr (row':=List.replicate S.n 0) (by simp;rfl) c0 a6);rwa [show ({({dM S m with q:=gK S.q S.n k}:PS)with q:=((gK S.q S.n k).set k (List.replicate S.n 0))}:PS)={dM S m with q:=gK S.q S.n (k+1)} by rw[(Cv (by rwa [HK.1]))]]at h3
 have y:Hid (∀wr,To w F b o wr {dM S m with q:=gK S.q S.n S.n} {o with h:=sN,c:=none}->ε wr b 15 (.map (some o.m))/\∃B,(Builtin.clear_ #[156] 0 #[.map (some o.m)]).run prog wr=.ok ϳ B/\To w F b o B {dM S m with q:=S.q.map λr=>List.replicate r.length 0,o:=[]} {o with h:=sN,c:=none,l:=[],n:=#[]}):=λwr h=>by
  have e:gK S.q S.n S.n=S.q.map λr=>List.replicate r.length 0:=by have:=Cu (kn:=S.q) (n:=S.n) HK.2;rwa [HK.1]at this
  rw[e]at h;exact⟨h.c.a.y 15,_,Eh wr h.c.e.map,h.a h.c.a9⟩
 clear t a7 M;refine wp_seq_k λK c=>?_;have d:=ah c;clear c;go_wp21;go_loopw [43] (λi wr=>∃k:Nat,k<=S.n/\i=J k/\To w F b o wr {dM S m with q:=gK S.q S.n k} {o with h:=sN,c:=none}) λi _=>S.n-(intOf i).toNat
 case atStart=>exact⟨0,ω,rfl,H0⟩
 case round=>
  obtain⟨k,hk,rfl,ht⟩:=hrel;by_cases a2:k<S.n
  .have c1:(k:Int)<(S.n:Int):=ω;have d0:(0:Int)<=(k:Int):=ω
   let ⟨r,j,ck,A,Z⟩:=l k wr a2 ht
   have H5:=ah Z;clear Z ht l y;go_wp21;exact⟨⟨k+1,ω,by go_num,H5⟩,by simp[intOf];lia⟩
  have a5:¬(k:Int)<(S.n:Int):=ω;have a8:k=S.n:=ω;subst a8
  let ⟨b7,j,A,Z⟩:=y wr ht
  have H5:Hid (To w F b o j _ _):=Z;clear Z ht l y;go_wp21;apply d;clear d;go_wp21;clear A b7 Y a5;have D:=ah H5.c;have v:=ah D.e.a.f;have N:=D.a.y 6;have G:=D.a.y 17;simp only[dM,yf,yd,ye]at N G;have HS:Hid (∀H,Ϟ j H->ε H b 6 (J (S.b+1))/\ε H b 17 o.g):=λH hw=>⟨(hw.cell (p:=(aT b 6)) v).trans N,(hw.cell (p:=(aT b 17)) v).trans G⟩;clear N G;refine gl.b (λH=>ε H b 6 (J (S.b+1))/\ε H b 17 o.g) 15 rfl (HS _ Ϡ.drew) λa=>?_;(iterate 11 refine χ ?_);refine te 11 λK c=>?_;go_simp;have f:Hid (Ϟ j (j.alloc (.cells #[J 3,J (S.b+1),J 0,J 0,J m,.string ⟨#[]⟩] 64)).drew):=(Ϡ.alloc Ϫ _).drew;refine c.out _ _ (λ_=>HS _ f) λa=>?_;clear c K;have HE:Hid (af (j.alloc (.cells #[J 3,J (S.b+1),J 0,J 0,J m,.string ⟨#[]⟩] 64)).drew j 64 #[J 3,J (S.b+1),J 0,J 0,J m,.string ⟨#[]⟩]):=(af.d j j rfl 64 _).i;have I:Hid ((j.alloc (.cells #[J 3,J (S.b+1),J 0,J 0,J m,.string ⟨#[]⟩] 64)).drew=j.heap.size+1):=by simp[Hid]
  generalize (j.alloc (.cells #[J 3,J (S.b+1),J 0,J 0,J m,.string ⟨#[]⟩] 64)).drew=w6 at f HE I a|-;refine te 12 λK c=>?_;apply step_append_lies w6 rfl (.tmp 57) (.tmp 64) 35 rfl 0 64 i0 _ 6 56 underlying35 b1 b4 a9 a3 rfl θ o.g S.j.length (az S.j) rfl (aQ D.e.c.d f) (aT j 0) 1 1 (Ev.f ⟨3,S.b+1,0,0,m,⟨#[]⟩⟩) rfl rfl (World.news_of_block HE) (by intro u hu;simp only[Ev.f,yF,yU,or_false]at hu;rcases hu with rfl|rfl|rfl|rfl|rfl|rfl<;>rfl) ω (by simp[maxLen];lia) ω (oI _) (j.heap.size+1) I;intro g c4 w7 E x Q R;have nb:some b≠o.g.ownBlock:=λe=>D.e.c.o e.symm D.e.a θ rfl;have z:=yg v f.size;have L:Hid (ε w7 b 6 (J (S.b+1))/\ε w7 b 17 o.g):=
   have h4:=HS _ f
   ⟨(x.cell_far ⟨b,6,none⟩ z nb).trans h4.1,(x.cell_far ⟨b,17,none⟩ z nb).trans h4.2⟩
  have W:=ah (D.a8 f x (e:=⟨3,S.b+1,0,0,m,⟨#[]⟩⟩) E (Q.imp id λe=>ω));have d2:w7.frozen? (aT b 17)=false:=by rw[x.frozen_far ⟨b,17,none⟩ z nb];exact(D.e.a.c f v).b 17
  clear E x Q R a HE I f HS nb z;refine c.out _ _ (λ_=>L) λa=>?_;clear c K;have a:=a θ;refine te 13 λK c=>?_;go_simp;refine c.out _ _ (λ_=>L) λa=>?_;clear c K;refine te 14 λK c=>?_;go_simp;refine c.out _ _ (λ_=>L) λa=>?_;clear c K;have a:=a θ;refine te 15 λK c=>?_;go_simp;refine c.out _ _ (λh=>absurd rfl h) λ_=>?_;clear c K;refine gl.done κ ?_ _;go_wp21;go_end0
  let ⟨o',ho⟩:=W
  exact⟨rfl,o',H5.a ho⟩
def iV.c{R:ϑ}{d:Option Nat}{L:Option Bal}{c:Θ}{a:List (Θ×Θ)}{x:Nat}{B:Bal}(f:d=Option.some x)(e:L=Option.some B)(h:fD w R B x c a):iV w R d L c a:=by subst f e;exact h
def kP:∀{L:List Lft}{lvs:List (Θ×Θ)},lvs.length=L.length->∀(e:Lft)(v:Θ×Θ),bV (L++[e]) (lvs++[v])=bV L lvs++[J e.m,v.1,v.2]
 |[],[],_,e,v=>by simp[bV]
 |a::L,u::lvs,h,e,v=>by have:=kP (by simpa using h) e v;simp only[Ft,bV,this];simp
 |[],_::_,h,_,_=>by simp at h
 |_::_,[],h,_,_=>by simp at h
def PP.b5(p:PP w F b S o):PA w (λx=>F x/\¬o.X x) b (o.q S) S.q o.l S.j (S.e.map lF) o.kb o.m o.k o.n o.j o.g o.d:=by
 have q:=p.e;have d:∀{x},o.U b x->¬o.X x:=λm a=>p.nx a m;have k:∀{x e t},w.heap[x]?=some (.cells e t (0,0))->(t=3\/t=69)->¬o.X x:=λh s a=>by obtain⟨_,u,j,f⟩:=p.q a;rw[h]at j;cases j;rcases s with rfl|rfl<;>simp at f
 refine⟨q.a,q.e,q.map,q.o,q.i,λx a=>⟨⟨(q.d x a).1.d,λg c=>⟨(q.d x a).1.c g c,?_⟩⟩,(q.d x a).2⟩,⟨q.c.d,λg c=>⟨q.c.c g c,d (.inr (.inr (.inr (.inl c))))⟩⟩,⟨q.f.d,λg c=>⟨q.f.c g c,d (.inr (.inr (.inr (.inr c))))⟩⟩,⟨q.t,d (.inl rfl)⟩,⟨q.z,k q.e.c (.inr rfl)⟩,⟨q.s,d (.inr (.inl rfl))⟩,λr i=>⟨q.fr r i,d (.inr (.inr (.inl i)))⟩⟩;obtain⟨e,n⟩:=(q.d x a).1.m c;exact k n (.inl rfl)
def PP.a2(p:PP w F b S o){s:Δ}(f:w.grownBy s o.i.ownBlock){g d:Nat}{e:Lft}{N O:Θ}(P:s.ownsRow 0 249 3 (sT g (S.i.length+1) d) (S.i.length+1) (bV S.i o.f++[J e.m,N,O]))(hg:o.i.ownBlock=some g\/w.heap.size<=g)(hc:aE w (o.R F b) N e.a)(hm:bI w (o.R F b) O e.b):To w F b o (s.setCell ⟨b,16,none⟩ (sT g (S.i.length+1) d)) {S with i:=S.i++[e]} {o with i:=sT g (S.i.length+1) d,f:=o.f++[(N,O)]}:=by
 have Y:∀x,({o with i:=sT g (S.i.length+1) d,f:=o.f++[(N,O)]}:Pl).M b x->o.M b x\/w.heap.size<=x:=λx c=>by
  rcases c with h|h|h|h;exact .inl (.inl h);exact .inl (.inr (.inl h));exact .inl (.inr (.inr (.inl h)));have:g=x:=by simpa[Value.ownBlock]using h
  subst this;exact hg.imp (λh=>.inr (.inr (.inr h))) id
 have Z:∀x,x<w.heap.size->x≠b->o.i.ownBlock≠some x->(s.setCell ⟨b,16,none⟩ (sT g (S.i.length+1) d)).heap[x]?=w.heap[x]?:=λx c z C=>(Below.heap_setCell _ _ _ _ z).trans (f.block x c λe=>C e.symm);have A:w.heap.size<=(s.setCell ⟨b,16,none⟩ (sT g (S.i.length+1) d)).heap.size:=ϰ f.size;have j:jo (o.R F b) (({o with i:=sT g (S.i.length+1) d,f:=o.f++[(N,O)]}:Pl).R F b) w (s.setCell ⟨b,16,none⟩ (sT g (S.i.length+1) d)):=⟨A,λx U c=>⟨⟨U.1,λh=>(Y x h).elim U.2 λe=>ω⟩,Z x c (λe=>U.2 (.inl (.inl e))) λe=>U.2 (.inr (.inr (.inr e)))⟩⟩;have a2:=hg.elim ((λx c e=>p.nx (.inr (.inr c)) (.inl e)) g) λh=>ϕ p.e.a.f;have H:=p.b5.u λx c V=>f.block x V λe=>c.2 (.inr (.inr e.symm));have hX:=λx c C=>Z x (p.n c) (λe=>p.nx c (.inl e)) C;have hB:=H.a.e 16 (sT g (S.i.length+1) d);have K:∀{e sz:Nat}{v:Θ}{n:Nat}{xs:Ϣ},e≠159->eB s (λx=>F x/\¬o.X x) e sz v n xs->eB (s.setCell ⟨b,16,none⟩ (sT g (S.i.length+1) d)) (λx=>F x/\¬o.X x) e sz v n xs:=λhe r=>r.i λx c=>Below.heap_setCell _ _ _ _ (r.o c H.a he);refine⟨⟨?_,p.ms,λx c=>?_,λx c=>p.up x (yr A c),p.vote.f j,?_,?_⟩,{f with size:=A,block:=λx c hn=>Z x c (λe=>hn (.inl (.inl e))) λe=>hn (.inr (.inr (.inr e)))},Y⟩;exact(H.p (h':=zc {S with i:=S.i++[e]} o.h (sT g (S.i.length+1) d) o.c) rfl hB (λx _ z _ _=>Below.heap_setCell _ _ _ _ z) (K θ H.c) (K θ H.f)).k λx c=>c.1;rcases Y x (.inr c)with h|h;exact p.mf h;exact p.up x h
 .rcases p.lead.cases with ⟨G,W⟩|⟨x,B,G,W,C⟩;show iV _ _ o.c S.d _ _;rw[G,W];trivial;have I:∀{y t a1},w.heap[y]?=some (.cells a1 t (0,0))->t≠249->o.i.ownBlock≠some y:=λh ht e=>by rcases p.left.d.2 with ⟨l,-⟩|⟨g',E,L,l,-,q,-⟩;rw[l]at e;cases e;rw[l]at e;cases e;rw[h]at q;cases q;exact ht rfl
  have k:=C.g j (hX x (.inl G) (I C.c θ)) λy T=>by rcases C.d.2 with ⟨l,-⟩|⟨g',E,L,l,-,q,-⟩;rw[l]at T;cases T;rw[l]at T;cases T;exact hX _ (.inr (.inl ⟨by rw[G];rfl,by rw[l];rfl⟩)) (I q θ)
  exact iV.c G W k
 refine⟨by simp[p.left.f],?_,λi a v u D=>?_⟩
 .show World.ownsRow _ 0 249 3 _ _ _;rw[kP p.left.f,yC];exact aj P λx c=>by
   have:g=x:=by simpa[Value.ownBlock]using c
   subst this;exact Below.heap_setCell _ _ _ _ a2
 have Q:=p.left.f;by_cases hi:i<S.i.length;rw[y7 hi]at u;rw[y7 ω]at D;exact⟨(p.left.e i a v u D).1.f j,(p.left.e i a v u D).2.c j⟩;rw[Fl ω]at u;rw[Fl ω,Q]at D;have l:=(ym.1 u).1;simp only[yx,yD]at l;rw[show i-S.i.length=0 by lia]at u D;simp only[AH,yA]at u D;subst u D;exact⟨hc.f j,hm.c j⟩
def Ek(p:PP w F b S o):Do 70 #[pT b 0] (J (if S.f then 6 else 0)) w F b o S.crash:=by
 have c:=p.a;have g:=c.a 3 _ rfl;have j:=c.b 3;simp only[yf,yd,ye]at g;have i:Hid (∃f,To w F b o _ S.crash f):=⟨_,p.head (cW.a 3 _) (c.e 3 _) rfl rfl rfl rfl rfl rfl p.vote (.inl ⟨rfl,rfl⟩)⟩;have d:Hid (S.f=true->∃f,To w F b o w S.crash f):=λe=>⟨o,by rw[show S.crash=S by unfold PS.crash;rw[<-e]];exact To.f p⟩;clear p c;cases a:S.f with
 |true=>
  rw[a]at g;have HF':=ah (d a);clear d i a;go_enter func70,ntmps70;go_wp2;go_ret;exact⟨rfl,HF'⟩
 |false=>
  rw[a]at g;clear d a;go_enter func70,ntmps70;go_wp2;go_ret;exact⟨rfl,i⟩
def oD(p:PP w F b S o):ϖ 105 #[pT b 0] w λe g=>ϱ e (J S.MC)/\g=w:=by have c:=p.a;have d:=c.a 3 _ rfl;have f:=c.a 4 _ rfl;simp only[yf,yd,ye]at d f;have a:Hid (S.MC=if S.f then 6 else if S.out then 7 else 0):=rfl;clear p c;generalize S.MC=v at a|-;generalize S.f=x at d a;generalize S.out=y at f a;cases x<;>cases y<;>(have e:=a;simp only[yH,if_true,if_false]at e;subst e;clear a;go_enter func105,ntmps105;go_wp2;go_ret;exact⟨rfl,rfl⟩)
variable {q:Nat}
def Ay(a:q<6):∃x:Int,x=Md.aO q/\wrap64 (2^q)=x/\Md.bj x:=⟨_,rfl,by
 match q,a with
 |0,_|1,_|2,_|3,_|4,_|5,_=>decide+kernel,.c a⟩
def wX(p:PP w F b S o)(k:Wf S)(r:q<6):Do 65 #[pT b 0,J q] (J (if q=S.c then 5 else S.MC)) w F b o (S.Mu q):=by
 have s:=p.a.y 0;simp at s;have f:=oD p;have j:Hid (∃A,To w F b o w S A):=⟨o,To.f p⟩
 let ⟨x,l,n,c⟩:=Ay r
 have i:Hid (Do 106 #[pT b 0,J x] ϳ w F b o (S.suspect (Md.aO q))):=l▸qm p k c;have z:0<=q:=ω;clear p k l c;by_cases e:q=S.c
 .have d:Hid (S.Mu q=S):=by unfold Hid PS.Mu;rw[if_neg];rintro⟨h,-⟩;exact h e
  have u:q=S.c:=by rw[e]
  rw[if_pos e,d];go_enter func65,ntmps65;go_wp2;go_ret;exact⟨rfl,j⟩
 have u:¬q=S.c:=ω;rw[if_neg e];by_cases g:S.MC=0
 .have d:Hid (S.Mu q=S.suspect (Md.aO q)):=by unfold Hid PS.Mu;rw[if_pos ⟨e,g⟩]
  rw[d,g];rw[g]at f;have a:Hid (ϖ 105 #[pT b 0] w λe t=>ϱ e (J 0)/\t=w):=f;have D:min q 64=q:=ω;go_enter func65,ntmps65;go_wp21;apply a.m;rintro B rfl;go_wp21;rw[n];apply i.m;rintro C m;go_wp2;go_ret;exact⟨rfl,(ah m)⟩
 have d:Hid (S.Mu q=S):=by unfold Hid PS.Mu;rw[if_neg];rintro⟨-,h⟩;exact g h
 have a:=ah f;rw[d];generalize S.MC=v at g a|-;go_enter func65,ntmps65;go_wp21;apply a.m;rintro B rfl;go_wp2;go_ret;exact⟨rfl,j⟩
def Gk:(prog.info? 249).map (λi=>(i.zero,i.size,i.bytes))=some (some (.agg #[J 0,sN,sN]),3,56):=κ
def qun(p:PP w F b S o)(Q:Wf S)(ho:S.out=false){m:Int}(hm:Md.bj m){c:Υ}{cv:Θ}(hv:aE w (o.R F b) cv c)(hl:c.length=S.n):Do 258 #[pT b 0,J m,cv] ϳ w F b o (S.install m c):=by
 obtain⟨s,t,x,rfl⟩:=hv.a
 let ⟨i0,b4,b2,b3,b0⟩:=info_parts Gk
 have HD:=ah (nh p Q hv hl);have kp:=Md.eh S c;have HN:Hid (∀k f,To w F b o k (S.Mb c) f->aE k (f.R F b) (.slice s t x) c/\c.length=(S.Mb c).n/\(S.Mb c).i.length<=2147483648/\Wf (S.Mb c)):=λk f h=>by refine⟨hv.f h.d,by rwa [kp.n],?_,Q.d c⟩;rw[kp.h,Q.left.2 ho];have:=Q.view;lia
 have b6:0<=S.c:=ω;have HI:Hid (S.install m c=if Md.aV m S.c then ((S.Mb c).M6 m c).enter m else ((S.Mb c).M6 m c).Na):=rfl;have A:=kp.i;have r:=gE m S.c;generalize S.install m c=X at HI|-;generalize S.Mb c=T at HD HN A HI;go_enter func258,ntmps258;go_wp21;apply HD.m;rintro k⟨f,h1⟩;have M:=ah h1
 let ⟨a5,b5,b7,a8⟩:=HN k f h1
 have HV:=ah a5;have HW:Hid (Wf T):=a8;have U:=h1.c.a.y 16;simp at U;have Z:Hid (∀z,Ϟ k z->ε z b 16 f.i):=λz hw=>(hw.cell (p:=(aT b 16)) (ah h1.c.e.a.f)).trans U;have HH:Hid (∀z,Ϟ k z->ϖ 240 #[pT b 0,.slice s t x] z λe a1=>Ϟ z a1/\∃v,ϱ e v/\bI a1 (f.R F b) v (T.Mm c)):=λz hw=>lA (M.c.c hw) HW (HV.f (M.c.d hw).d) b5;go_wp21;refine gl.b (λz=>z.cell? _=some f.i) 15 rfl (Z _ Ϡ.drew) λa=>?_;(iterate 9 refine χ ?_);refine te 9 λK d=>?_;go_simp;apply (HH _ Ϡ.drew).mono;rintro e j⟨a4,mv,rfl,P⟩;obtain⟨D,B,G,rfl⟩:=P.a;have l:Hid (Ϟ k j):=(Ϡ.drew).trans (a4.mono ς);refine d.out _ _ (λ_=>Z _ l) λa=>?_;have a:=a θ;refine te 10 λK d=>?_;go_simp;refine d.out _ _ (λ_=>Z _ l) λa=>?_;have a:=a θ;refine te 11 λK d=>?_;go_simp;have i:Hid (Ϟ k (j.alloc (.cells #[J m,.slice s t x,.slice D B G] 249))):=l.alloc l.size _;have y:Hid (Ϟ j (j.alloc (.cells #[J m,.slice s t x,.slice D B G] 249))):=Ϡ.alloc Ϫ _;have HE:Hid (af (j.alloc (.cells #[J m,.slice s t x,.slice D B G] 249)) j 249 #[J m,.slice s t x,.slice D B G]):=af.d j j rfl 249 _;have E:Hid ((j.alloc (.cells #[J m,.slice s t x,.slice D B G] 249))=j.heap.size+1):=by simp[Hid]
 refine d.out _ _ (λ_=>Z _ i) λa=>?_;have a:=a θ;generalize (j.alloc (.cells #[J m,.slice s t x,.slice D B G] 249))=w4 at i y HE E a|-;have P4:=ah (M.c.c i);refine te 12 λK d=>?_;apply step_append_lies w4 rfl (.tmp 13) (.tmp 20) 157 rfl 0 249 i0 _ 3 56 underlying157 b4 b2 b3 b0 rfl θ f.i T.i.length (bV T.i f.f) rfl P4.left.d ⟨j,0,none⟩ 1 1 [J m,.slice s t x,.slice D B G] rfl rfl (World.news_of_block HE) (by intro u hu;simp at hu;rcases hu with rfl|rfl|rfl<;>rfl) ω (by simp[maxLen];lia) ω (oI _) (j.heap.size+1) E;intro g I w5 O H a0 a9;have nb:some b≠f.i.ownBlock:=λe=>P4.nx (.inr (.inr e.symm)) (.inl rfl);have W:=P4.e.a.f;have L:=ah ((H.cell_far ⟨b,16,none⟩ W nb).trans (Z _ i));have N:Hid (To w4 F b f (w5.setCell ⟨b,16,none⟩ (sT g (T.i.length+1) I)) (T.M6 m c) {f with i:=sT g (T.i.length+1) I,f:=f.f++[(.slice s t x,.slice D B G)]}):=P4.a2 H (e:=⟨m,c,T.Mm c⟩) O (a0.imp id λe=>ϕ E.out) (ah (HV.f (M.c.d i).d)) (ah ((ah P).c ((M.c.c l).d y).d));have b1:w5.frozen? (aT b 16)=false:=by rw[H.frozen_far ⟨b,16,none⟩ W nb];exact P4.e.a.b 16
 have C:=ah ((M.a (M.c.d i)).a N);refine d.out _ _ (λ_=>L) λa=>?_;have a:=a θ;refine te 13 λK d=>?_;go_simp;refine d.out _ _ (λ_=>L) λa=>?_;refine te 14 λK d=>?_;go_simp;refine d.out _ _ (λ_=>L) λa=>?_;have a:=a θ;refine te 15 λK d=>?_;go_simp;refine d.out _ _ (λh=>absurd rfl h) λ_=>?_;refine gl.done κ ?_ _;generalize ({f with i:=sT g (T.i.length+1) I,f:=f.f++[(.slice s t x,.slice D B G)]}:Pl)=o2 at C;generalize w5.setCell ⟨b,16,none⟩ (sT g (T.i.length+1) I)=w6 at C|-;have c0:=C.c.a.y 0;simp at c0;rw[show (T.M6 m c).c=S.c from A]at c0;go_wp21;apply (r w6 (ϵ Q.num Q.c)).m;rintro w7 rfl;have hH:jc m S.c=Md.aV m S.c:=rfl;rw[hH];cases hc:Md.aV m S.c with
 |true=>
  have HX:Hid (X=(T.M6 m c).enter m):=by have:=HI;rwa [hc]at this
  go_wp21
  apply (ah (Em C.c (HW.v m c) hm)).m;rintro w8⟨o3,h3⟩;have H3:Hid (∃o',To w F b o w8 X o'):=⟨o3,HX▸C.a h3⟩;go_wp21;go_end0;exact⟨rfl,H3⟩
 |false=>
  have HX:Hid (X=(T.M6 m c).Na):=by have:=HI;rwa [hc]at this
  go_wp21
  apply (ah (xX C.c (HW.v m c))).m;rintro w8⟨o3,h3⟩;have H3:Hid (∃o',To w F b o w8 X o'):=⟨o3,HX▸C.a h3⟩;go_wp21;go_end0;exact⟨rfl,H3⟩
variable {x:Nat}{B:Bal}
def kr{e i:Nat}{v:Θ}{n:Nat}{f:Ϣ}(d:w.ownsRow 0 e i v n f)(c:v.ownBlock=some x):∃a,w.heap[x]?=some (.cells a e (0,0)):=by rcases d.2 with ⟨h,-⟩|⟨k,g,a,rfl,-,j,-⟩;rw[h]at c;cases c;cases c;exact⟨a,j⟩
def PP.m(p:PP w F b S o){B':Bal}(j:o.c=some x)(H:S.d=some B){av':Θ}{avs':List (Θ×Θ)}(f:cW (λy=>y=x\/o.e.ownBlock=some y) w w')(m:af w' x 234 (bu B' av'))(q:avs'.length=B'.i.length)(n:w'.ownsRow 0 237 4 av' B'.i.length (bF B'.i avs'))(l:∀(i:Nat)a v,B'.i[i]?=some a->avs'[i]?=some v->aE w (o.R F b) v.1 a.1/\aE w (o.R F b) v.2 a.2.a)(z:∀g,av'.ownBlock=some g->o.e.ownBlock=some g\/w.heap.size<=g):To w F b o w' {S with d:=some B'} {o with e:=av',a:=avs'}:=by
 have A:∀y,(y=x\/o.e.ownBlock=some y)->o.X y:=λy d=>d.elim (λe=>.inl (by rw[j,e])) λe=>.inr (.inl ⟨by rw[j];rfl,e⟩);have u:∀y,({o with e:=av',a:=avs'}:Pl).M b y->o.M b y\/w.heap.size<=y:=λy d=>by rcases d with h|h|⟨c,s⟩|h;exact .inl (.inl h);exact .inl (.inr (.inl h));exact(z y s).imp (λe=>.inr (.inr (.inl ⟨c,e⟩))) id;exact .inl (.inr (.inr (.inr h)))
 have k:jo (o.R F b) (({o with e:=av',a:=avs'}:Pl).R F b) w w':=⟨f.size,λg C r=>⟨⟨C.1,λh=>(u g h).elim C.2 λe=>ω⟩,f.block g r λe=>C.2 (.inr (A g e))⟩⟩;have D:=λg r=>f.block g (p.n (.inr (.inr r))) λe=>by obtain⟨I,G⟩:=kr p.left.d r;rcases e with e|e;have c:=(p.f j H).c;rw[<-e]at c;have c:w.heap[g]?=_:=c;rw[G]at c;cases c;obtain⟨E,c⟩:=kr (p.f j H).d e;rw[G]at c;cases c
 refine⟨⟨?_,p.ms,λy d=>(u y (.inr d)).elim p.mf (p.up y),λy d=>p.up y (yr f.size d),p.vote.f k,?_,p.left.c k D⟩,f.e λy _ d=>.inr (A y d),u⟩;exact(p.b5.u λy d t=>f.block y t λe=>d.2 (A y e)).k λy d=>d.1;exact iV.c j rfl ⟨m,q,n,λi a v c s=>⟨(l i a v c s).1.f k,(l i a v c s).2.f k⟩⟩
def PP.a1(p:PP w F b S o){d:Δ}(z:Ϟ w d)(l:w.heap.size<=x)(A:B.i=[])(k:af d x 234 (bu B (sN))):To w F b o (d.setCell ⟨b,13,none⟩ (pT x 0)) {S with d:=some B} {o with c:=some x,e:=sN,a:=[]}:=by
 have s:=p.c z;have G:=z.size;have j:w.heap.size<=(d.setCell ⟨b,13,none⟩ (pT x 0)).heap.size:=ϰ G;have O:∀y,({o with c:=some x,e:=sN,a:=[]}:Pl).X y->y=x\/o.i.ownBlock=some y:=λy c=>by rcases c with h|⟨-,h⟩|h;cases h;exact .inl rfl;cases h;exact .inr h
 have I:∀y,({o with c:=some x,e:=sN,a:=[]}:Pl).M b y->o.M b y\/w.heap.size<=y:=λy c=>by rcases c with h|h;exact .inl (.inl h);rcases O y h with h|h;exact .inr (h▸l);exact .inl (.inr (.inr (.inr h)))
 have u:∀y,y≠b->(d.setCell ⟨b,13,none⟩ (pT x 0)).heap[y]?=d.heap[y]?:=λy c=>Below.heap_setCell _ _ _ _ c;have m:cW (o.M b) w (d.setCell ⟨b,13,none⟩ (pT x 0)):=(p.d z).e.c ((cW.a 13 _).e λy _ c=>.inl (.inl (.inl c)));have q:jo (o.R F b) (({o with c:=some x,e:=sN,a:=[]}:Pl).R F b) w _:=⟨j,λg H f=>⟨⟨H.1,λh=>(I g h).elim H.2 λe=>ω⟩,m.block g f H.2⟩⟩;have E:=s.e.a.e 13 (pT x 0);have t:∀{e N:Nat}{v:Θ}{n:Nat}{K:Ϣ},e≠159->eB d F e N v n K->eB _ F e N v n K:=λP r=>r.i λg f=>u g (r.o f s.e.a P);refine⟨⟨?_,p.ms,λy c=>?_,λy c=>p.up y (yr j c),p.vote.f q,?_,p.left.c q λg f=>?_⟩,m,I⟩;exact s.e.p rfl E (λy _ D _ _=>u y D) (t θ s.e.c) (t θ s.e.f);rcases O y c with h|h;exact h▸p.up x l;exact p.fx y (.inr (.inr h));exact iV.c rfl rfl ⟨(u x λe=>ϕ p.e.a.f).trans k,by rw[A];rfl,A▸⟨rfl,.inl ⟨rfl,rfl⟩⟩,λi a v L _=>by rw[A]at L;cases L⟩;exact(u g λe=>p.nx (.inr (.inr f)) (.inl e)).trans (z.block g (p.n (.inr (.inr f))))
def Gg:(prog.info? 237).map (λi=>(i.zero,i.size,i.bytes))=some (some (.agg #[sN,J 0,J 0,sN]),4,64):=κ
def kL:∀{L:List (Υ×Vote)}{vs:List (Θ×Θ)},vs.length=L.length->∀(e:Υ×Vote)(v:Θ×Θ),bF (L++[e]) (vs++[v])=bF L vs++[v.1,J e.2.b,J e.2.m,v.2]
 |[],[],_,e,v=>by simp[bF]
 |a::L,u::vs,h,e,v=>by have:=kL (by simpa using h) e v;simp only[Ft,bF,this];simp
 |[],_::_,h,_,_=>by simp at h
 |_::_,[],h,_,_=>by simp at h
def AA(p:PP w F b S o){x:Nat}{B:Bal}(a3:o.c=some x)(hL:S.d=some B){q:Nat}(hq:q<6)(Z:Md.bj B.c)(c8:B.i.length<=1000)(a:Υ×Vote){rv cv:Θ}(hr:aE w (o.R F b) rv a.1)(hc:aE w (o.R F b) cv a.2.a):ϖ 194 #[pT x 0,J q,.agg #[rv,J a.2.b,J a.2.m,cv]] w λe z=>ϱ e ϳ/\∃a5,To w F b o z {S with d:=some (B.f q a)} {o with e:=a5,a:=o.a++[(rv,cv)]}:=by
 obtain⟨m,r,n,rfl⟩:=hr.a;obtain⟨j,l,s,rfl⟩:=hc.a
 let ⟨i0,c1,c3,b8,b6⟩:=info_parts Gg
 have L:=oE hq;have HV:Hid (bits .or .i64 B.c (IntKind.i64.wrap (2^q))=(B.f q a).c):=by have f:=L.1;rw[show min q 64=q by lia]at f;rw[Hid,f,(cK Z L.2).2.2.1];rfl
 have E:=p.f a3 hL;have V:Ϟ w (w.alloc (.cells #[.slice m r n,J a.2.b,J a.2.m,.slice j l s] 237)):=Ϡ.alloc Ϫ _;have a8:=ah E.c.f;have P:=ah p;have HR:=ah hr;have c7:=ah E;have a6:=ah V;have c4:=(V.cell E.c.f).trans (E.c.y 4);simp only[bu,yf,yd,ye]at c4;have f4:=(E.c.c V E.c.f).b 4;have d0:0<=q:=ω;have c5:Hid ((w.alloc (.cells #[.slice m r n,J a.2.b,J a.2.m,.slice j l s] 237))=w.heap.size+1):=by simp[Hid]
 have D:=ah a3;have HL:=ah hL;go_enter func194,ntmps194;go_wp21;refine gl.b (λz=>ε z x 4 _) 9 rfl c4 λc=>?_;(iterate 7 refine χ ?_);refine te 7 λK k=>?_;go_simp;refine k.out _ _ (λ_=>c4) λc=>?_;have c:=c θ;apply tw 8;refine te 9 λK k=>?_;go_simp;refine k.out _ _ (λh=>absurd rfl h) λ_=>?_;refine gl.done κ ?_ _;rw[HV];have Q:Hid (To w F b o ((w.alloc (.cells #[.slice m r n,J a.2.b,J a.2.m,.slice j l s] 237)).setCell ⟨x,4,none⟩ (J (B.f q a).c)).drew {S with d:=some {B with c:=(B.f q a).c}} o):=
  have p0:=P.c a6;have I:=p0.f D HL
  have b9:∀g,o.e.ownBlock=some g->g≠x:=λg hg e=>by
   let ⟨c2,f⟩:=kr I.d hg
   have A:_=_:=I.c;rw[<-e,f]at A;cases A
  have f:=p0.m D HL (B':={B with c:=(B.f q a).c}) (av':=o.e) (avs':=o.a) ((cW.a 4 (J (B.f q a).c)).e λy _ hy=>.inl hy) (I.c.e 4 _) I.f (aj I.d λg hg=>Below.heap_setCell _ _ _ _ (b9 g hg)) I.e λ_ h=>.inl h
  ((P.d a6).a f).a (f.c.d Ϡ.drew)
 have W:Hid (af ((w.alloc (.cells #[.slice m r n,J a.2.b,J a.2.m,.slice j l s] 237)).setCell ⟨x,4,none⟩ (J (B.f q a).c)).drew w 237 #[.slice m r n,J a.2.b,J a.2.m,.slice j l s]):=(Below.heap_setCell _ _ _ _ (by have:=a8.out;show w≠x;lia)).trans (ah ((af.d w _ rfl 237 #[.slice m r n,J a.2.b,J a.2.m,.slice j l s])));have a7:Hid (((w.alloc (.cells #[.slice m r n,J a.2.b,J a.2.m,.slice j l s] 237)).setCell ⟨x,4,none⟩ (J (B.f q a).c)).drew=w.heap.size+1):=by simp[Hid]
 generalize ((w.alloc (.cells #[.slice m r n,J a.2.b,J a.2.m,.slice j l s] 237)).setCell ⟨x,4,none⟩ (J (B.f q a).c)).drew=G at Q W a7|-;have a2:Hid (fD G (o.R F b) {B with c:=(B.f q a).c} x o.e o.a):=Q.c.f D rfl;have X:Hid (∀z,Ϟ G z->ε z x 6 o.e/\ε z w 0 (.slice m r n)/\ε z w 1 (J a.2.b)/\ε z w 2 (J a.2.m)/\ε z w 3 (.slice j l s)):=λz hw=>
  have A:=W.c hw W.f
  ⟨(a2.c.c hw a2.c.f).y 6,A.y 0,A.y 1,A.y 2,A.y 3⟩
 go_wp21
 refine gl.b (λz=>ε z x 6 o.e/\ε z w 0 (.slice m r n)/\ε z w 1 (J a.2.b)/\ε z w 2 (J a.2.m)/\ε z w 3 (.slice j l s)) 10 rfl (X _ Ϡ.drew) λc=>?_;(iterate 6 refine χ ?_);refine te 6 λK k=>?_;go_simp;have C:Hid (Ϟ G (G.alloc (.cells #[.slice m r n,J a.2.b,J a.2.m,.slice j l s] 237)).drew):=(Ϡ.alloc Ϫ _).drew;have HE:Hid (af (G.alloc (.cells #[.slice m r n,J a.2.b,J a.2.m,.slice j l s] 237)).drew G 237 #[.slice m r n,J a.2.b,J a.2.m,.slice j l s]):=(af.d G G rfl 237 _).i;have H:Hid ((G.alloc (.cells #[.slice m r n,J a.2.b,J a.2.m,.slice j l s] 237)).drew=G.heap.size+1):=by simp[Hid]
 refine k.out _ _ (λ_=>X _ C) λc=>?_;have c:=c θ;generalize (G.alloc (.cells #[.slice m r n,J a.2.b,J a.2.m,.slice j l s] 237)).drew=Y at C HE H c|-;have P4:Hid (PP Y F b {S with d:=some {B with c:=(B.f q a).c}} o):=Q.c.c C;have t:Hid (fD Y (o.R F b) {B with c:=(B.f q a).c} x o.e o.a):=P4.f D rfl;have b3:Hid (aE Y (o.R F b) (.slice m r n) a.1):=(HR.f Q.d).f (Q.c.d C).d;have b0:Hid (aE Y (o.R F b) (.slice j l s) a.2.a):=((ah hc).f Q.d).f (Q.c.d C).d;refine te 7 λK k=>?_;apply step_append_lies Y rfl (.tmp 19) (.tmp 21) 232 rfl 0 237 i0 _ 4 64 underlying232 c1 c3 b8 b6 rfl θ o.e B.i.length (bF B.i o.a) rfl t.d ⟨G,0,none⟩ 1 1 [.slice m r n,J a.2.b,J a.2.m,.slice j l s] rfl rfl (World.news_of_block HE) (by intro u hu;simp at hu;rcases hu with rfl|rfl|rfl|rfl<;>rfl) ω (by simp[maxLen];lia) ω (oI _) (G.heap.size+1) H;intro g M T a0 d a1 b5;have nx:some x≠o.e.ownBlock:=λe=>by
  let ⟨c2,f⟩:=kr t.d e.symm
  have A:_=_:=t.c;rw[f]at A;cases A
 have U:x<Y:=t.c.f;have n0:some w.heap.size≠o.e.ownBlock:=λe=>ϕ (P.n (.inr (.inl ⟨by rw[D];rfl,e.symm⟩)));have O:w.heap.size<Y:=ϵ a7.out H.out;have a4:Hid (ε T x 6 o.e/\ε T w 0 (.slice m r n)/\ε T w 1 (J a.2.b)/\ε T w 2 (J a.2.m)/\ε T w 3 (.slice j l s)):=
  let ⟨e1,e2,e3,e4,e5⟩:=X _ C
  ⟨(d.cell_far ⟨x,6,none⟩ U nx).trans e1,(d.cell_far ⟨w.heap.size,0,none⟩ O n0).trans e2,(d.cell_far ⟨w.heap.size,1,none⟩ O n0).trans e3,(d.cell_far ⟨w.heap.size,2,none⟩ O n0).trans e4,(d.cell_far ⟨w.heap.size,3,none⟩ O n0).trans e5⟩
 have b1:Hid (∃a5,To w F b o (T.setCell ⟨x,6,none⟩ (sT g (B.i.length+1) M)) {S with d:=some (B.f q a)} {o with e:=a5,a:=o.a++[(.slice m r n,.slice j l s)]}):=by
  have b7:g≠x:=a1.elim (λe h=>nx (h▸e.symm)) λe h=>ϕ H.out;have c0:af T x 234 (bu {B with c:=(B.f q a).c} o.e):=(d.block x U nx).trans t.c;have N:o.a.length=B.i.length:=t.f;refine⟨sT g (B.i.length+1) M,(Q.a (Q.c.d C)).a (P4.m D rfl ({d with size:=ϰ d.size,block:=λy hy hn=>(Below.heap_setCell _ _ _ _ λe=>hn (.inl e)).trans (d.block y hy λe=>hn (.inr e.symm))}) (c0.e 6 _) (by simp[Bal.f,N]) ?_ (λi e v f A=>?_) λy hy=>?_)⟩
  .show World.ownsRow _ 0 237 4 _ (B.i++[a]).length (bF (B.i++[a]) (o.a++[(.slice m r n,.slice j l s)]));rw[kL N,yC];exact aj a0 λy hy=>by
    have:g=y:=by simpa[Value.ownBlock]using hy
    subst this;exact Below.heap_setCell _ _ _ _ b7
  have f:(B.i++[a])[i]?=some e:=f;by_cases hi:i<B.i.length;rw[y7 hi]at f;rw[y7 ω]at A;exact t.e i e v f A;rw[Fl ω]at f;rw[Fl ω,N]at A;have h0:=(ym.1 f).1;simp at h0;have e0:i-B.i.length=0:=ω;rw[e0]at f;rw[e0]at A;simp at f A;subst f A;exact⟨b3,b0⟩;have:g=y:=by simpa[Value.ownBlock]using hy
  subst this;exact a1.imp id λe=>ϕ H.out
 have c9:T.frozen? (aT x 6)=false:=by rw[d.frozen_far ⟨x,6,none⟩ U nx];exact t.out.c.b 6
 refine k.out _ _ (λ_=>a4.out) λc=>?_;have c:=c θ;refine te 8 λK k=>?_;go_simp;refine k.out _ _ (λ_=>a4.out) λc=>?_;refine te 9 λK k=>?_;go_simp;refine k.out _ _ (λ_=>a4.out) λc=>?_;have c:=c θ;refine te 10 λK k=>?_;go_simp;refine k.out _ _ (λh=>absurd rfl h) λ_=>?_;refine gl.done κ ?_ _;go_wp21;go_end0;exact⟨rfl,b1.out⟩
variable {X:Nat}{x0 x1 x2 v a0 a1 a2:Θ}{R:ϑ}{l:List ϥ}
def El(S:PS):Lft:=⟨S.a.m,S.a.a,S.Mm S.a.a⟩
def ou(S:PS)(T:PS)(q:Nat):PS:=T.ME q T.b (El S)
def lG(S:PS)(L:Ϙ)(k:Nat):Sends S (aG (ou S) L S k) k:=fa (λT _=>Md.ak T _) L k
def jX{w:Δ}{T:ϟ}(h:af w X T #[x0,x1,x2])(a c d:Θ):af (((w.setCell ⟨X,0,none⟩ a).setCell ⟨X,1,none⟩ c).setCell ⟨X,2,none⟩ d) X T #[a,c,d]/\ej X w (((w.setCell ⟨X,0,none⟩ a).setCell ⟨X,1,none⟩ c).setCell ⟨X,2,none⟩ d):=⟨(((h.e 0 a).e 1 c).e 2 d),(((ej.d X w).a 0 a).a 1 c).a 2 d⟩
def bI.f(h:bI w R v l)(q:af w X 249 #[a0,a1,a2]):bI w (λx=>R x/\x≠X) v l:=by
 rcases h with h|⟨g,n,a,z,B,c⟩;exact .inl h;match l,a,c with
 |[],a,_=>exact .inl ⟨⟨_,_,a⟩,rfl⟩
 |m::l,a,c=>
  have i:g≠X:=λe=>by
   let ⟨p,_,_,_,k,_⟩:=c 0 m rfl
   subst e;have d:w.heap[g]?=some _:=q;simp[World.cell?,d]at k
  refine .inr ⟨g,n,a,z,⟨B,i⟩,λj A s=>?_⟩
  let ⟨p,u,t,C,k,f⟩:=c j A s
  exact⟨p,u,t,C,k,f.d,λy r=>⟨f.c y r,λe=>f.o r q θ e⟩⟩
def Af{a:Δ}(i:Ϟ a w)(c:a<=X)(f:af w X 249 #[x0,x1,x2])(j:bI w R v l):Ϟ a (((w.setCell ⟨X,0,none⟩ a0).setCell ⟨X,1,none⟩ a1).setCell ⟨X,2,none⟩ a2)/\af (((w.setCell ⟨X,0,none⟩ a0).setCell ⟨X,1,none⟩ a1).setCell ⟨X,2,none⟩ a2) X 249 #[a0,a1,a2]/\bI (((w.setCell ⟨X,0,none⟩ a0).setCell ⟨X,1,none⟩ a1).setCell ⟨X,2,none⟩ a2) R v l:=
 let ⟨h,d⟩:=jX f a0 a1 a2
 ⟨i.trans (d.c c),h,(j.f f).c ⟨ς,λg e _=>⟨e.1,d.block g e.2⟩⟩⟩
def t2{P:ϛ}{g:Region.Mode}{d:Array Oper}{Q:Exit->Act->Ξ}{S:Ξ}{z:Nat}(i j:Nat){o m:Oper}{n:Nat}{c:Array Bool}{a:Act}{w:Δ}(h:∀e:Act->Ξ,Shut (∀a w,(i≠z->S w)->((i≠z->S w)->gl P g d Q S z n (c.setIfInBounds i true) a w)->e a w)->if Region.wanted o (yielded d a.tmps)=true then Oper.wp P o a w e Q else e (a.put o.dst undef) w)(x:∀e:Act->Ξ,Shut (∀a w,(j≠z->S w)->((j≠z->S w)->gl P g d Q S z n (c.setIfInBounds j true) a w)->e a w)->if Region.wanted m (yielded d a.tmps)=true then Oper.wp P m a w e Q else e (a.put m.dst undef) w)(t:Region.ready g d c=[i,j]:=by kernel_rfl)(y:d[i]?=some o:=by exact rfl)(p:d[j]?=some m:=by exact rfl):gl P g d Q S z (n+1) c a w:=
 ⟨λu=>(by rw[t]at u;cases u),λk r=>by rw[t]at r;simp at r;rcases r with rfl|rfl;exact wpOp_step y λe s=>h e λa w f q=>s a w ⟨f,q f⟩;exact wpOp_step p λe s=>x e λa w f q=>s a w ⟨f,q f⟩⟩
def qtp(p:PP w F b S o)(wf:Wf S)(ho:S.out=false){x:Nat}{B:Bal}(b3:o.c=some x)(hL:S.d=some B)(c8:S.a.a.length=S.n)(hs:S.e.length<=900000):Do 239 #[pT b 0] ϳ w F b o (S.installIf B):=by
 have b1:=p.a.y 13;rw[b3]at b1;simp only[eb,yf,yd,ye]at b1;have c5:=(p.f b3 hL).c.a 5 _ rfl;simp only[bu,yf,yd,ye]at c5
 let ⟨C,A,D,b2⟩:=p.vote.a
 have d3:=ah (EM p wf (wf.lead B hL).acc);have HI:Hid (S.installIf B=if S.Nj B.d then S.MF.install S.a.m S.a.a else S):=rfl;have HC:Hid (∀r,Ϟ w r->ε r b 11 (J S.a.m)/\ε r b 12 (.slice C A D)):=λr hw=>by have h:=(p.c hw).a;rw[<-b2];exact⟨h.y 11,h.y 12⟩
 have Y:Hid (∀r,Ϟ w r->ϖ 240 #[pT b 0,.slice C A D] r λe a6=>Ϟ r a6/\∃v,ϱ e v/\bI a6 (o.R F b) v (S.Mm S.a.a)):=λr hw=>by have p':=p.c hw;have:=lA p' wf p'.vote c8;rwa [b2]at this
 have HP:=ah p;have e5:=ah wf;have d7:=ah b2;have g0:=wf.c;have e7:S.L8.length<=6:=yr (gG _ S.n) wf.c;have HO:Hid (∀r,Ϟ w r->ϖ 110 #[pT b 0] r λe a6=>∃v,ϱ e v/\a6.ownsRow r 3 1 v S.L8.length (cz S.L8)/\Ϟ r a6):=λr hw=>nm (p.c hw) wf;have hx:=(p.f b3 hL).c.f;generalize S.installIf B=Z at HI|-;go_enter func239,ntmps239;go_wp21;apply d3.m;rintro w1 d8;have N:=ah d8;cases b0:S.Nj _
 .have HZ:Hid (Z=S):=by have:=HI;rwa [b0]at this
  go_wp21
  (try simp)
  apply bodyPost_ret (results_none rfl _ _ _) rfl;exact⟨rfl,o,HZ▸HP.d N⟩
 have HZ:Hid (Z=S.MF.install S.a.m S.a.a):=by have:=HI;rwa [b0]at this
 go_wp21
 rename_i QQ KK g1
 have a4:Hid (∀y s u t E,Ϟ w E->w.heap.size<=y->af E y 249 #[J S.a.m,.slice C A D,.slice s u t]->bI E (o.R F b) (.slice s u t) (S.Mm S.a.a)->Exit.then KK QQ .normal ⟨#[pT b 0,undef,pT y 0,undef,undef,pT b 0,pT b 0,pT b 0,pT b 13,pT x 0,pT x 0,pT x 5,J B.d,.bool true,.bool false,pT b 0,pT b 0,pT b 10,pT b 11,J S.a.m,pT b 0,pT b 0,pT b 10,pT b 12,.slice C A D,pT b 0,pT b 0,pT b 0,pT b 10,pT b 12,.slice C A D,.slice s u t,.agg #[J S.a.m,.slice C A D,.slice s u t],undef,undef,undef,undef,undef,undef,undef,undef,undef,undef,undef,undef,undef,undef,undef,undef,undef,undef,undef,undef,undef,undef],[]⟩ E):=by
  intro y s u t E c0 c3 b5 G;have j:Hid (Ϟ w E):=c0;have O:Hid (af E y 249 #[J S.a.m,.slice C A D,.slice s u t]):=b5;have HM:Hid (bI E (o.R F b) (.slice s u t) (S.Mm S.a.a)):=G;have d5:Hid (w.heap.size<=y):=c3;go_wp21;apply (HO E c0).mono;rintro e H⟨v,rfl,a9,b4⟩;have c1:Hid (Ϟ w H):=j.trans (b4.mono j.size);have P4:Hid (PP H F b S o):=HP.c c1;have b7:Hid (af H y 249 #[J S.a.m,.slice C A D,.slice s u t]):=O.c b4 O.f;have c4:Hid (bI H (o.R F b) (.slice s u t) (S.Mm S.a.a)):=HM.c ((HP.c j).d b4).d;have a5:Hid (∃ao c,v=.slice ao S.L8.length c/\(∃sv',To H F b o H (aG (ou S) S.L8 S 0) {o with d:=sv'})/\(∀wr sv',To H F b o wr (aG (ou S) S.L8 S S.L8.length) {o with d:=sv'}->(ε wr y 0 (J S.a.m)/\ε wr y 1 (.slice C A D))/\ϖ 258 #[pT b 0,J S.a.m,.slice C A D] wr λe r=>ϱ e ϳ/\∃o',To w F b o r Z o')/\∀(k:Nat)wr sv',k<S.L8.length->To H F b o wr (aG (ou S) S.L8 S k) {o with d:=sv'}->∃q g:Nat,ao=some ⟨g,0,none⟩/\ε wr g k (J q)/\(ε wr b 6 (J S.b)/\ε wr y 0 (J S.a.m)/\ε wr y 1 (.slice C A D)/\ε wr y 2 (.slice s u t))/\ϖ 208 #[pT b 0,J q,J S.b,.agg #[J S.a.m,.slice C A D,.slice s u t]] wr.drew λe E=>ϱ e ϳ/\(∃sv',To H F b o E (aG (ou S) S.L8 S (k+1)) {o with d:=sv'})/\(ε E b 6 (J S.b)/\ε E y 0 (J S.a.m)/\ε E y 1 (.slice C A D)/\ε E y 2 (.slice s u t))):=by
   let ⟨ao,c,hv,_⟩:=fN (w':=H) a9 λ_ _ _=>rfl
   have f3:¬o.M b y:=λh=>ϵ (HP.h h) d5;have b8:∀{wr T o'},To H F b o wr T o'->af wr y 249 #[J S.a.m,.slice C A D,.slice s u t]:=λh=>(h.e.block y b7.f f3).trans b7;have a3:∀{wr sv' k},To H F b o wr (aG (ou S) S.L8 S k) {o with d:=sv'}->ε wr b 6 (J S.b)/\ε wr y 0 (J S.a.m)/\ε wr y 1 (.slice C A D)/\ε wr y 2 (.slice s u t):=λ{wr sv' k}h=>by have pp:=h.c;rw[(lG S S.L8 k).e]at pp;have hx:=b8 h;exact⟨pp.a.y 6,hx.y 0,hx.y 1,hx.y 2⟩
   refine⟨ao,c,hv,⟨o.d,To.f P4⟩,λwr sv' h=>⟨⟨(a3 h).2.1,(a3 h).2.2.1⟩,?_⟩,λk wr sv' hk h=>?_⟩;have z:=lG S S.L8 S.L8.length;rw[iH]at h z;have h:To H F b o wr S.MF {o with d:=sv'}:=h;have z:Sends S S.MF S.L8.length:=z;have a8:=h.c.vote;rw[z.a.c]at a8;have e8:aE wr (({o with d:=sv'}:Pl).R F b) (.slice C A D) S.a.a:=d7▸a8;apply (qun h.c (z.d e5) (z.a.out.trans ho) e5.vote.2.2 e8 (by rwa [z.a.n])).m;rintro r⟨o',h'⟩;exact⟨rfl,o',HZ▸((HP.d c1).a h).a h'⟩;have d6:S.L8[k]?=some S.L8[k]:=yh hk
   let ⟨f8,c',c7,c2⟩:=fN (w':=wr) a9 λg hg b6=>h.e.block g b6 λe=>ϵ (HP.h e) j.size
   rw[hv]at c7;injection c7 with e1 _ _;subst e1
   let ⟨g,hg,hc⟩:=c2 k _ d6
   refine⟨_,g,hg,hc,a3 h,?_⟩;have b9:Ϟ wr wr.drew:=Ϡ.drew;have pp:=h.c.c b9;have z:=lG S S.L8 k;have c9:aw wr.drew wr.drew.heap.size (.slice C A D) S.a.a:=by have a8:=pp.vote;rw[z.a.c]at a8;rw[<-d7];exact aX a8.d
   apply (kT pp S.L8[k] S.b (El S) (ϕ z.b) c9 (((c4.c h.d).c (h.c.d b9).d).at)).m;rintro E⟨e6,h3⟩;have hT:To H F b o E (aG (ou S) S.L8 S (k+1)) {o with d:=e6}:=by rw[jb d6];show To H F b o E (PS.ME _ _ (aG (ou S) S.L8 S k).b (El S)) _;rw[z.a.a];exact(h.a (h.c.d b9)).a h3
   grind
  obtain⟨ao,c,rfl,h0,hE,c6⟩:=a5;have H0:Hid (∃sv',To H F b o H (aG (ou S) S.L8 S 0) {o with d:=sv'}):=h0;have HE:Hid (∀wr sv',To H F b o wr (aG (ou S) S.L8 S S.L8.length) {o with d:=sv'}->_):=hE;have HS:Hid (∀(k:Nat)wr sv',k<S.L8.length->_):=c6;generalize S.L8=L at e7 H0 HE HS HO;go_wp21;go_loopw [36] (λi wr=>∃k:Nat,k<=L.length/\i=J k/\∃sv',To H F b o wr (aG (ou S) L S k) {o with d:=sv'}) λi _=>L.length-(intOf i).toNat
  case atStart=>exact⟨0,ω,rfl,H0⟩
  case round=>
   obtain⟨k,hk,rfl,sv',ht⟩:=hrel;by_cases b6:k<L.length
   .have f6:(k:Int)<(L.length:Int):=ω;have f9:(0:Int)<=(k:Int):=ω;obtain⟨q,g,rfl,cg,e0,hc⟩:=HS k wr sv' b6 ht;have a7:Hid (ϖ 208 _ _ _):=hc;go_wp21;refine wp_region_held_drew (S:=λr=>ε r b 6 (J S.b)/\ε r y 0 (J S.a.m)/\ε r y 1 (.slice C A D)/\ε r y 2 (.slice s u t)) rfl e0 λhHeld=>?_;(iterate 7 refine ψ ?_);refine we 7 λK I=>?_;go_simp;apply a7.m;rintro E⟨d4,e4⟩;have H3:Hid (∃sv',To H F b o E (aG (ou S) L S (k+1)) {o with d:=sv'}):=d4;go_wp21;refine I.out _ _ e4 λhHeld=>?_;refine wpAnyH_done κ ?_ _;go_wp21;exact⟨⟨k+1,ω,by go_num,H3⟩,by simp[intOf];lia⟩
   have f7:¬(k:Int)<(L.length:Int):=ω;have f4:k=L.length:=ω
   let ⟨⟨d0,d1⟩,hc⟩:=HE wr sv' (by rwa [<-f4])
   have a7:Hid (ϖ 258 #[pT b 0,J S.a.m,.slice C A D] wr λe r=>ϱ e ϳ/\∃o',To w F b o r Z o'):=hc;go_wp21;apply a7.m;rintro w9 h9;have H9:Hid (∃o',To w F b o w9 Z o'):=h9;go_wp21;go_end0;exact⟨rfl,H9⟩
 refine gl.b (λr=>ε r b 11 (J S.a.m)/\ε r b 12 (.slice C A D)) 19 rfl (HC _ N.drew) λhHeld=>?_;(iterate 16 refine χ ?_);refine t2 16 18 (λK I=>?_) λK I=>?_
 .go_simp;apply (Y _ N.drew).mono;rintro e V⟨W,mv,rfl,G⟩;obtain⟨s,u,t,rfl⟩:=G.a;have P:Hid (Ϟ w V):=N.drew.trans (W.mono N.drew.size);have HM:Hid (bI V (o.R F b) (.slice s u t) (S.Mm S.a.a)):=G;refine I.out _ _ (λ_=>HC _ P) λhHeld=>?_;have hHeld:=hHeld θ;apply tw 17;refine te 18 λK I=>?_;go_simp;have O:Hid (af (V.alloc (.cells #[J 0,sN,sN] 249)) V.heap.size 249 #[J 0,sN,sN]):=af.d V V.heap.size rfl 249 _;have j:Hid (Ϟ w (V.alloc (.cells #[J 0,sN,sN] 249))):=P.alloc P.size _;have d9:Hid (bI (V.alloc (.cells #[J 0,sN,sN] 249)) (o.R F b) (.slice s u t) (S.Mm S.a.a)):=HM.c ((HP.c P).d (Ϡ.alloc Ϫ _)).d;have Q:Hid (w.heap.size<=V):=P.size;refine I.out _ _ (λ_=>HC _ j) λhHeld=>?_;have hHeld:=hHeld θ;generalize V.alloc (.cells #[J 0,sN,sN] 249)=E at O j d9 hHeld|-;generalize V.heap.size=X at O Q|-;have d0:=O.y 0;have d1:=O.y 1;have d2:=O.y 2;have f0:=O.b 0;have f1:=O.b 1;have f2:=O.b 2;simp at d0 d1 d2;refine te 19 λK I=>?_;go_simp;refine I.out _ _ (λh=>absurd rfl h) λ_=>?_;refine gl.done κ ?_ _
  let ⟨e1,e2,e3⟩:=Af (a0:=J S.a.m) (a1:=.slice C A D) (a2:=.slice s u t) j Q O d9
  exact a4 X s u t _ e1 Q e2 e3
 go_simp;have O:Hid (af (w1.alloc (.cells #[J 0,sN,sN] 249)).drew w1.heap.size 249 #[J 0,sN,sN]):=(af.d w1 w1.heap.size rfl 249 _).i;have j:Hid (Ϟ w (w1.alloc (.cells #[J 0,sN,sN] 249)).drew):=(N.alloc N.size _).drew;have Q:Hid (w.heap.size<=w1):=N.size;refine I.out _ _ (λ_=>HC _ j) λhHeld=>?_;have hHeld:=hHeld θ;generalize (w1.alloc (.cells #[J 0,sN,sN] 249)).drew=E at O j hHeld|-;generalize w1.heap.size=X at O Q|-;refine te 16 λK I=>?_;go_simp;apply (Y _ j).mono;rintro e V⟨W,mv,rfl,G⟩;obtain⟨s,u,t,rfl⟩:=G.a;have P:Hid (Ϟ w V):=j.trans (W.mono j.size);have HM:Hid (bI V (o.R F b) (.slice s u t) (S.Mm S.a.a)):=G;have U:Hid (af V X 249 #[J 0,sN,sN]):=O.c W O.f;refine I.out _ _ (λ_=>HC _ P) λhHeld=>?_;have hHeld:=hHeld θ;apply tw 17;have d0:=U.y 0;have d1:=U.y 1;have d2:=U.y 2;have f0:=U.b 0;have f1:=U.b 1;have f2:=U.b 2;simp at d0 d1 d2;refine te 19 λK I=>?_;go_simp;refine I.out _ _ (λh=>absurd rfl h) λ_=>?_;refine gl.done κ ?_ _
 let ⟨e1,e2,e3⟩:=Af (a0:=J S.a.m) (a1:=.slice C A D) (a2:=.slice s u t) P Q U HM
 exact a4 X s u t _ e1 Q e2 e3
variable {av:Θ}{avs:List (Θ×Θ)}
def nK:∀{L:List (Υ×Vote)}{vs:List (Θ×Θ)}{k:Nat}{a:Υ×Vote}{v:Θ×Θ},L[k]?=some a->vs[k]?=some v->(bF L vs)[k*4]?=some v.1/\(bF L vs)[k*4+1]?=some (J a.2.b)/\(bF L vs)[k*4+2]?=some (J a.2.m)/\(bF L vs)[k*4+3]?=some v.2
 |x::L,y::vs,0,a,v,d,c=>by simp at d c;subst d c;exact⟨rfl,rfl,rfl,rfl⟩
 |x::L,y::vs,k+1,a,v,d,c=>by rw[show (k+1)*4=k*4+4 by lia];simp only[bF,Ft,List.nil_append,List.getElem?_cons_succ,show k*4+4+1=k*4+1+4 by lia,show k*4+4+2=k*4+2+4 by lia,show k*4+4+3=k*4+3+4 by lia];exact(nK (ϰ d) (ϰ c))
def se{e s:Nat}{v:Θ}{n:Nat}{m:Ϣ}(h:w.ownsRow 0 e s v n m):∃p c,v=.slice p n c/\∀(j:Nat)u,m[j]?=some u->∃g,p=some ⟨g,0,none⟩/\g<w/\ε w g j u:=by
 rcases h.2 with ⟨d,l⟩|⟨g,i,r,d,t,q,-⟩
 .refine⟨none,0,by rw[d,l],λj u k=>?_⟩;have:=(ym.1 k).1;have f:=h.1;rw[l]at f;lia
 refine⟨_,i,d,λj u k=>⟨g,rfl,(yk.1 q).1,?_⟩⟩;have f:=h.cells (by rw[d];rfl) j u k;rwa [(by unfold Addr.add;split<;>simp_all:(⟨g,0,none⟩:Addr).add j=(aT g j))]at f
def fD.h(h:fD w R B x av avs):∃i c,av=.slice i B.i.length c/\∀(k:Nat),k<B.i.length->∃a v g,B.i[k]?=some a/\avs[k]?=some v/\i=some ⟨g,0,none⟩/\g<w/\w.cell? ⟨g,k*4,none⟩=some v.1/\w.cell? ⟨g,k*4+1,none⟩=some (J a.2.b)/\w.cell? ⟨g,k*4+2,none⟩=some (J a.2.m)/\w.cell? ⟨g,k*4+3,none⟩=some v.2/\aE w R v.1 a.1/\aE w R v.2 a.2.a:=by
 let ⟨i,c,t,j⟩:=se h.d
 refine⟨i,c,t,λk q=>?_⟩;have m:=yh q;have n:=yh (by rwa [h.f]:k<avs.length)
 let ⟨u,A,E,z⟩:=nK m n
 let ⟨g,r,l,s⟩:=j _ _ u
 let ⟨I,e,_,y⟩:=j _ _ A
 let ⟨G,d,_,D⟩:=j _ _ E
 let ⟨H,f,_,C⟩:=j _ _ z
 rw[r]at e d f;cases e;cases d;cases f;exact⟨_,_,g,m,n,r,l,s,y,D,C,h.e k _ _ m n⟩
def ib(B:Bal)(k:Nat):Vote:=(B.i.take k).foldl (λv a=>if v.b<a.2.b then a.2 else v) ⟨0,0,[]⟩
def zd{k:Nat}{a:Υ×Vote}(h:B.i[k]?=some a):ib B (k+1)=if (ib B k).b<a.2.b then a.2 else ib B k:=by obtain⟨c,rfl⟩:=ym.1 h;unfold ib;rw[<-List.take_append_getElem c,List.foldl_append];rfl
def Ca(B:Bal):ib B B.i.length=B.h:=by unfold ib;rw[AE];rfl
def ze(h:fD w R B x av avs)(a2:B.i.length<=1000):ϖ 269 #[pT x 0] w λe w'=>Ϟ w w'/\∃cv,ϱ e (.agg #[J B.h.b,J B.h.m,cv])/\aE w R cv B.h.a:=by
 obtain⟨ao,c,rfl,hA⟩:=h.h;have c6:=h.c.z 6;simp only[bu,yf,yd,ye]at c6;have a4:=ah h.c.f;have d:Hid (Ϟ w ((w.alloc (.cells #[J 0,J 0,sN] 154)).alloc (.cells #[J 0,J 0,sN] 154))):=(Ϡ.alloc Ϫ _).alloc ς _;have r:Hid (af ((w.alloc (.cells #[J 0,J 0,sN] 154)).alloc (.cells #[J 0,J 0,sN] 154)) w 154 #[J 0,J 0,sN]):=(af.d w w rfl 154 _).c (Ϡ.alloc Ϫ _) ς;have s:Hid (af ((w.alloc (.cells #[J 0,J 0,sN] 154)).alloc (.cells #[J 0,J 0,sN] 154)) (w.heap.size+1) 154 #[J 0,J 0,sN]):=af.d (w.alloc (.cells #[J 0,J 0,sN] 154)) (w.heap.size+1) ς 154 _;have d6:=(d.cell h.c.f).trans c6;go_enter func269,ntmps269;go_wp21;generalize (w.alloc _).alloc _=w2 at d r s d6|-;go_loopw [11] (λi wr=>∃k:Nat,k<=B.i.length/\i=J k/\Below _ w wr/\af wr _ 154 _/\∃t z A,af wr _ 154 #[J (ib B k).b,J (ib B k).m,.slice t z A]/\aE w R (.slice t z A) (ib B k).a) λi _=>B.i.length-(intOf i).toNat
 case atStart=>exact⟨0,ω,rfl,d,r,none,0,0,s,⟨⟨rfl,.inl ⟨rfl,rfl⟩⟩,λg y=>by cases y⟩⟩
 case round=>
  obtain⟨k,hk,rfl,hb,D,t,z,A,K,hn⟩:=hrel;have n:=ah hb;have f:=ah D;have l:=ah K;have O:=ah hn;by_cases X:k<B.i.length
  .have a1:(k:Int)<(B.i.length:Int):=ω;have a5:(0:Int)<=(k:Int):=ω;obtain⟨a,v,g,ha,hv,rfl,y,e0,e1,e2,e3,hr,W⟩:=(ah hA) k X
   let ⟨ro,rn,Y,N⟩:=hr.a
   let ⟨G,L,M,H⟩:=W.a
   rw[N]at e0;rw[H]at e3 W;have Q:=ah (zd ha);have g0:=(n.cell (p:=⟨g,k*4,none⟩) y).trans e0;have g1:=(n.cell (p:=⟨g,k*4+1,none⟩) y).trans e1;have g2:=(n.cell (p:=⟨g,k*4+2,none⟩) y).trans e2;have g3:=(n.cell (p:=⟨g,k*4+3,none⟩) y).trans e3;have hs:=ah l.f;generalize ib B k=V at l O Q;have U:Hid (Ϟ wr (wr.alloc (.cells #[.slice ro rn Y,J a.2.b,J a.2.m,.slice G L M] 237))):=Ϡ.alloc Ϫ _;have q:=l.c U hs;have Z:=q.z 0;have q1:=q.z 1;have q2:=q.z 2;have f0:=q.b 0;have f1:=q.b 1;have f2:=q.b 2;have P:=ah q;have d:Hid (af (wr.alloc (.cells #[.slice ro rn Y,J a.2.b,J a.2.m,.slice G L M] 237)) w 154 #[J 0,J 0,sN]):=f.c U (ϕ hs.out);have C:=ah (n.trans (U.mono n.size));have E:=af.d wr wr rfl 237 #[.slice ro rn Y,J a.2.b,J a.2.m,.slice G L M];have n0:=E.z 0;have n1:=E.z 1;have n2:=E.z 2;have n3:=E.z 3;by_cases I:V.b<a.2.b
   .have p:Hid (ib B (k+1)=a.2):=by rw[Hid,Q,if_pos I]
    go_wp21
    let ⟨u,T⟩:=jX P (J a.2.b) (J a.2.m) (.slice G L M)
    refine⟨⟨k+1,ω,by go_num,C.trans (T.c ω),(T.block w ω).trans d,G,L,M,?_,?_⟩,by simp[intOf];lia⟩;rwa [p];rw[p];exact(ah W)
   have p:Hid (ib B (k+1)=V):=by rw[Hid,Q,if_neg I]
   go_wp21
   refine⟨⟨k+1,ω,by go_num,C,d,t,z,A,?_,?_⟩,by simp[intOf];lia⟩;rwa [p];rwa [p]
  have a3:¬(k:Int)<(B.i.length:Int):=ω;have a0:k=B.i.length:=ω;have p:Hid (ib B k=B.h):=by rw[Hid,a0];exact Ca B
  generalize ib B k=V at l O p;have Z:=l.z 0;have q1:=l.z 1;have q2:=l.z 2;have p0:=f.z 0;have p1:=f.z 1;have p2:=f.z 2;have f0:=f.b 0;have f1:=f.b 1;have f2:=f.b 2
  let ⟨u,T⟩:=jX f (J V.b) (J V.m) (.slice t z A)
  have HZ:=ah (n.trans (T.c Ϫ));go_wp21;apply bodyPost_ret (v:=.agg #[J V.b,J V.m,.slice t z A]) (by simp[results,results269,go_sem,(u.z 0),(u.z 1),(u.z 2)]) rfl;rw[<-p];exact⟨HZ,_,rfl,O⟩
end
section
open Go.RowKit
open Md (PS Vote Bal Lft Wf MsgW Sends)
variable {w w':Δ}{F:ϑ}{b:Nat}{S:PS}{o:Pl}{j n:Nat}{c r l:Υ}{B:Bal}
def vS(h:j<l.length):(ints l)[j]?=some (J (l.getD j 0)):=by simp[ints,h]
def rN(g c:Nat)(a:Υ)(w:Δ)(f:g<w)(z:∀(j:Nat)u,(ints a)[j]?=some u->ε w g j u)(G:a.length<=6)(H:1<=a.length):ϖ 118 #[sT g a.length c] w λe h=>∃i d,ϱ e (sT i a.length d)/\h.ownsRow w 3 1 (sT i a.length d) a.length (ints a)/\Ϟ w h:=by
 let ⟨A,E,q,s,m⟩:=info_parts zf
 have C:Hid ((w.alloc (.cells #[] 3)).ownsRow w 3 1 (sT w 0 0) 0 []):=⟨rfl,.inr ⟨_,_,#[],rfl,Ϫ,heap_alloc_new w _,Ϫ,oI _,rfl,rfl⟩⟩;have D:Hid (∀(j:Nat)u,(ints a)[j]?=some u->(w.alloc (.cells #[] 3)).cell? (aT g j)=some u):=λj u k=>((Ϡ.alloc Ϫ _).cell (p:=(aT g j)) f).trans (z j u k);have p:=λh:Δ=>Lib.run_eql_slice_nil h 69 3 (some ⟨g,0,none⟩) a.length c 0 0 underlying69;simp at p;go_enter func118,ntmps118;go_wp2_with (at_builtin;refine wpList_append_own_at _ rfl _ _ 69 rfl _ 3 A (J 0) 1 8 underlying69 E q s m rfl θ _ _ _ rfl C _ a.length c (ints a) rfl ?c0 ?c1 ?c2 ?c3 ?c4 ?c5 ?_)
 case c0=>rw[fe];simp
 case c1=>intro j u k;rw[lu];exact D j u k
 case c2=>intro u y;simp[ints]at y;obtain⟨_,_,rfl⟩:=y;rfl
 case c3=>unfold maxLen;lia
 case c4=>lia
 case c5=>simp
 intro v K t f _ _;obtain⟨i,d,rfl,_,_⟩:=World.ownsRow.form t ω;go_wp2;go_ret;refine⟨i,d,rfl,t,?_⟩;exact(Ϡ.alloc Ϫ _).trans {f with block:=λx I=>f.block x (by simp;lia) (λe=>by injection e with e;simp at e;lia)}
def GD{a g d:Nat}(h:w.ownsRow a 3 1 (sT g n d) n (ints l))(y:j<n)(u:Int):(w.setCell ⟨g,j,none⟩ (J u)).ownsRow a 3 1 (sT g n d) n (ints (l.set j u))/\ε w g j (J (l.getD j 0))/\w.frozen? (aT g j)=false/\ej g w (w.setCell ⟨g,j,none⟩ (J u)):=by
 have x:l.length=n:=by have:=h.1;simpa[fe]using this
 rcases h.2 with ⟨k,-⟩|⟨D,v,e,k,C,z,i,q,p,m⟩;cases k;cases k;have t:af w g 3 e:=z;have A:j<e.size:=ω;refine⟨⟨?_,.inr ⟨g,d,_,rfl,C,t.e j (J u),i,q,ϰ p,?_⟩⟩,?_,t.b j,(ej.d g w).a j _⟩;rw[fe,Ko,x];simp;rw[Array.toList_setIfInBounds,List.take_set,m];simp[ints,List.map_set];have s:=h.cells rfl j (J (l.getD j 0)) (by simp[ints,x,y]);rwa [(by unfold Addr.add;split<;>simp_all:(⟨g,0,none⟩:Addr).add j=(aT g j))]at s
def dC(c r:Υ)(j:Nat):Υ:=(List.range c.length).map λs=>if s<j then max (c.getD s 0) (r.getD s 0) else c.getD s 0
def vY(c r:Υ):dC c r 0=c:=by refine Lj (by simp[dC]) λi d a=>?_;simp[dC,a]
def zk(h:c.length=n):dC c r n=Md.dB c r:=by unfold dC Md.dB;refine GU λs a=>?_;rw[if_pos (by rw[zD]at a;lia)]
def Ce:(dC c r j).getD j 0=c.getD j 0:=by
 by_cases h:j<c.length
 simp[dC,h];simp[dC,h]
def zl:(dC c r j).set j (max (c.getD j 0) (r.getD j 0))=dC c r (j+1):=by refine Lj (by simp[dC]) λi f d=>?_;simp only[List.getElem_set,dC,Kw,List.getElem_range];by_cases e:j=i;subst e;simp;rw[if_neg e];by_cases a:i<j;rw[if_pos a,if_pos ω];rw[if_neg a,if_neg ω]
def du(B:Bal)(k:Nat):Υ:=(B.i.take k).foldl (λc a=>Md.dB c a.1) (B.i.headD ([],⟨0,0,[]⟩)).1
def vO{k:Nat}{a:Υ×Vote}(h:B.i[k]?=some a):du B (k+1)=Md.dB (du B k) a.1:=by obtain⟨d,rfl⟩:=ym.1 h;unfold du;rw[<-List.take_append_getElem d,List.foldl_append];rfl
def za(B:Bal):du B B.i.length=B.j:=by unfold du;rw[AE];rfl
def zb(g:∀a∈B.i,a.1.length=n)(h:B.i≠[])(k:Nat):(du B k).length=n:=by
 unfold du;have d:((B.i.headD ([],⟨0,0,[]⟩)).1).length=n:=by
  match e:B.i with
  |[]=>exact(h e).elim
  |a::l=>exact g a (e▸yY ..)
 generalize (B.i.headD _).1=c at d;generalize B.i.take k=L;induction L generalizing c with
 |nil=>exact d
 |cons a l f=>exact f _ (by show (Md.dB c a.1).length=n;rwa [Md.iW])
def vP{R:ϑ}{x:Nat}{av:Θ}{b7:List (Θ×Θ)}(h:fD w R B x av b7)(c4:B.i.length<=1000)(hl:∀a∈B.i,a.1.length=n)(ne:B.i≠[])(d2:n<=6)(d1:1<=n):ϖ 270 #[pT x 0] w λe t=>Ϟ w t/\∃g f,ϱ e (sT g n f)/\t.ownsRow w 3 1 (sT g n f) n (ints B.j):=by
 obtain⟨ao,c,rfl,hA⟩:=h.h;have c6:=h.c.y 6;simp only[bu,yf,yd,ye]at c6;have U:=List.length_pos_iff.2 ne;have HG:=ah (zb hl ne);have HA:Hid (∀(k:Nat),k<B.i.length->∃a q P Z mm cv g,B.i[k]?=some a/\ao=some ⟨g,0,none⟩/\g<w/\w.cell? ⟨g,k*4,none⟩=some (sT q n P)/\w.cell? ⟨g,k*4+1,none⟩=some (J Z)/\w.cell? ⟨g,k*4+2,none⟩=some (J mm)/\w.cell? ⟨g,k*4+3,none⟩=some cv/\(∃co cn ck,cv=.slice co cn ck)/\q<w/\(∀(j:Nat)u,(ints a.1)[j]?=some u->ε w q j u)/\a.1.length=n):=λk hk=>by
  let ⟨a,v,g,ha,_,V,L,G,e1,e2,e3,hr,hc⟩:=hA k hk
  have O:=hl a (yy ha)
  let ⟨ro,P,b4,a7⟩:=se hr.d
  let ⟨q,A,Y,_⟩:=a7 0 (J (a.1.getD 0 0)) (vS (l:=a.1) ω)
  refine⟨a,q,P,_,_,v.2,g,ha,V,L,by rw[G,b4,A,O],e1,e2,e3,hc.a,Y,λj u hj=>?_,O⟩
  let ⟨d0,I,_,h1⟩:=a7 j u hj
  rw[A]at I;cases I;exact h1
 obtain⟨a0,T,M,c7,d3,c5,g,a4,rfl,V,G,-,-,-,-,a5,E,D⟩:=HA 0 U;have a9:Hid (ϖ 118 #[sT T n M] w λe t=>∃g' f,ϱ e (sT g' n f)/\t.ownsRow w 3 1 (sT g' n f) n (ints (du B 0))/\Ϟ w t):=by
  have h1:=rN T M a0.1 w a5 E ω ω;rw[D]at h1;have e:du B 0=a0.1:=by
   unfold du;match e:B.i,a4 with
   |y::l,h=>simp at h;subst h;rfl
  rwa [e]
 have d5:0<B.i.length:=ω;have b0:Hid (∀t,Ϟ w t->ε t x 6 (sT g B.i.length c)):=λt hw=>(hw.cell (p:=(aT x 6)) (ah h.c.f)).trans c6;have G:ε w g 0 (sT T n M):=ϰ G;go_enter func270,ntmps270;go_wp21;apply a9.mono;rintro e w1⟨N,f,rfl,d,Q⟩;have H1:=ah d;have d6:=b0 w1 Q;have b8:=ah ((d.lt N rfl).1);go_wp21;go_loopw [21] (λi wr=>∃k:Nat,k<=B.i.length/\i=J k/\Below _ w wr/\wr.ownsRow _ 3 1 _ n (ints (du B k))) λi _=>B.i.length-(intOf i).toNat
 case atStart=>exact⟨0,ω,rfl,(ah Q),H1⟩
 case round=>
  obtain⟨k,hk,rfl,H,d⟩:=hrel;have HB:=ah H;have HO:=ah d;by_cases L:k<B.i.length
  .have c3:(k:Int)<(B.i.length:Int):=ω;have c9:(0:Int)<=(k:Int):=ω;obtain⟨a,q,P,Z,mm,cv,g',ha,b2,-,G,e1,e2,e3,⟨co,cn,ck,rfl⟩,A,a3,O⟩:=HA k L;cases b2;have HH:=ah (vO ha);have c0:Hid (du B (k+1)=du B (k+1)):=rfl;have X:=ah (HG k);have K:Hid (∀W,Ϟ w W->∀j,j<n->ε W q j (J (a.1.getD j 0))):=λW hq j hj=>(hq.cell (p:=(aT q j)) A).trans (a3 j _ (vS (l:=a.1) ω));have g0:=(HB.cell (p:=⟨g,k*4,none⟩) V).trans G;have g1:=(HB.cell (p:=⟨g,k*4+1,none⟩) V).trans e1;have g2:=(HB.cell (p:=⟨g,k*4+2,none⟩) V).trans e2;have g3:=(HB.cell (p:=⟨g,k*4+3,none⟩) V).trans e3;have HW:Hid (Ϟ wr (wr.alloc (.cells #[sT q n P,J Z,J mm,.slice co cn ck] 237))):=Ϡ.alloc Ϫ _;have z:=ah (HB.trans (HW.mono HB.size));have s:=ah (aQ HO HW);have n0:=(af.d wr wr rfl 237 #[sT q n P,J Z,J mm,.slice co cn ck]).y 0;simp at n0;generalize du B k=C at s HH X;generalize a8:du B (k+1)=C2 at HH;have a6:=ah a8;go_wp21;generalize wr.alloc (.cells #[sT q n P,J Z,J mm,.slice co cn ck] 237)=wW at z s n0|-;go_loopw [28] (λi W=>∃j:Nat,j<=n/\i=J j/\Ϟ w W/\W.ownsRow w 3 1 (sT N n f) n (ints (dC C a.1 j))) λi _=>n-(intOf i).toNat
   case atStart=>exact⟨0,ω,rfl,z,by rwa [vY]⟩
   case round=>
    obtain⟨j,hj,rfl,H,d⟩:=hrel;by_cases a1:j<n
    .have d4:(j:Int)<(n:Int):=ω;have c8:(0:Int)<=(j:Int):=ω
     let ⟨r1,r2,r3,r4⟩:=GD d a1 (max (C.getD j 0) (a.1.getD j 0))
     have cr:=K wr H j a1;have HB:=ah (H.trans (r4.c b8));have HR:Hid ((wr.setCell ⟨N,j,none⟩ (J (max (C.getD j 0) (a.1.getD j 0)))).ownsRow w 3 1 (sT N n f) n (ints (dC C a.1 (j+1)))):=by rwa [zl]at r1
     rw[Ce]at r2;generalize C.getD j 0=c1 at r2 HB HR;generalize a.1.getD j 0=c2 at cr HB HR;go_wp21;exact⟨⟨j+1,ω,by go_num,HB,HR⟩,by simp[intOf];lia⟩
    have b1:¬(j:Int)<(n:Int):=ω;have b5:j=n:=ω;have HB:=ah H;have HO:Hid (wr.ownsRow w 3 1 (sT N n f) n (ints C2)):=by have e:=zk (r:=a.1) X;rw[<-b5]at e;rwa [HH,<-e]
    have b6:Hid (wr.ownsRow w 3 1 (sT N n f) n (ints (du B (k+1)))):=by rwa [a6]
    go_wp2_with fail;exact⟨⟨k+1,ω,by go_num,HB,b6⟩,by simp[intOf];lia⟩
  have b1:¬(k:Int)<(B.i.length:Int):=ω;have b3:k=B.i.length:=ω;have HV:Hid (du B k=B.j):=by rw[Hid,b3];exact za B
  go_wp2_with fail;go_ret;rw[<-HV];exact⟨HB,N,f,rfl,HO⟩
