import Derived.Test.YtoklolfaemhfnaaGreatDoorZag
import Derived.Test.YtoklolfaemhfnaaGreatDoorZax
import Derived.Test.YtoklolfaemhfnaaGreatDoorZbj
set_option maxRecDepth 100000
set_option maxHeartbeats 0
set_option linter.defProp false
open Go.Proofs.Tryz (prog)
namespace Go.Proofs.YtoklolfaemhfnaaGreatDoor
section
open Go.RowKit
open Go.Pm (Perm Fam SupO FixS Loose Shut)
variable {xs:List Value}{n:Nat}
def gS(ρ:Perm)(F:Nat->Prop)(w w2:World):Prop:=∀r o,F r->w.heap[r]?=some o->w2.heap[ρ.f r]?=some (o.pm ρ)
def tf(ρ:Perm)(F:Nat->Prop):Nat->Prop:=fun x=>F (ρ.i x)
section
variable {ρ:Perm}{F:Nat->Prop}{w w2:World}
def tf.a{r:Nat}(h:F r):tf ρ F (ρ.f r):=by
 rw[tf,ρ.a];exact h
def af.j(d:gS ρ F w w2){b:Nat}(c:F b){t:TypeId}{a:Array Value}(h:af w b t a):af w2 (ρ.f b) t (a.map (Value.pm ρ)):=d b _ c h
def qe(v:Value):(v.pm ρ).ownBlock=v.ownBlock.map ρ.f:=by
 cases v with
 |slice a l c=>cases a <;> simp[Value.ownBlock,Addr.pm]
 |_=>simp[Value.ownBlock]
def iL(a:∀x∈xs,x.pm ρ=x):xs.map (Value.pm ρ)=xs:=by
 have:=GU (g:=id) a;rw[this,List.map_id]
def iG(l:List Int):∀x∈ints l,x.pm ρ=x:=by
 intro x a;obtain⟨y, -,rfl⟩:=yW.1 a;simp
def Ai(l:List Ev):∀x∈az l,x.pm ρ=x:=by
 intro x b;obtain⟨y, -,a⟩:=Km.1 b;simp only[Ev.f,yF,yU,or_false] at a;rcases a with rfl|rfl|rfl|rfl|rfl|rfl <;> simp
def vL(l:List bC):∀x∈ar l,x.pm ρ=x:=by
 intro x b;obtain⟨y, -,a⟩:=Km.1 b;simp only[yF,yU,or_false] at a;rcases a with rfl|rfl <;> simp
def eB.j(p:gS ρ F w w2){e:TypeId}{h:Nat}{v:Value}(i:∀x∈xs,x.pm ρ=x)(r:eB w F e h v n xs):eB w2 (tf ρ F) e h (v.pm ρ) n xs:=by
 refine⟨⟨r.d.1,?_⟩,fun g d=>?_⟩
 ·rcases r.d.2 with ⟨a,c⟩|⟨g,b,q,a, -,l,c,o,k,m⟩
  ·exact .inl ⟨by rw[a];simp,c⟩
  ·refine .inr ⟨ρ.f g,b,_,by rw[a];simp[Addr.pm],oI _,p g _ (r.c g (by rw[a];rfl)) l,c,o,by simpa using k,?_⟩;rw[yV,<-List.map_take,m];exact iL i
 ·rw[qe] at d;obtain⟨j,a,rfl⟩:=yE.1 d;exact tf.a (r.c j a)
def cO.i(m:gS ρ F w w2){d:Nat}{c:List Nat}{o:List (List Int)}(u:F d)(s:∀r∈c,F r)(k:cO w n d c o):cO w2 n (ρ.f d) (c.map ρ.f) o:=by
 refine⟨by rw[yL];exact k.f,k.a,List.Pairwise.map _ (fun a b g e=>g (ρ.Nd e)) k.d,?_,fun q r l j t=>?_⟩
 ·have:=af.j m u k.c;rw[Fj,AD] at this;rw[AD];have e:(Value.pm ρ ∘ fun r=>Value.slice (some ⟨r,0,none⟩) n n)=((fun r=>Value.slice (some ⟨r,0,none⟩) n n) ∘ ρ.f):=by
   funext r;simp[Addr.pm]
  rw[e] at this;exact this
 ·rw[yZ] at j;obtain⟨p,i,rfl⟩:=yE.1 j;have:=k.b q p l i t;refine⟨this.1,?_⟩;have h:=af.j m (s p (yy i)) this.2;rw[Fj,iL (iG l)] at h;exact h
def dX.c{b:Array MapEntry}{a:Nat}{l:aL}(m:dX b a l):dX (b.map (MapEntry.pm ρ)) a (l.map fun x=>(x.1,x.2.pm ρ)):=by
 refine⟨?_,?_,?_,fun e c=>?_⟩
 ·have:=congrArg (List.map (Value.pm ρ)) m.key;simp only[AD] at this;simp only[yV,AD];refine Eq.trans ?_ (this.trans ?_)
  ·rfl
  ·refine GU fun x _=>?_;simp[bQ]
 ·have:=congrArg (List.map (Value.pm ρ)) m.val;simp only[AD] at this;simp only[yV,AD];refine Eq.trans ?_ (this.trans ?_)
  ·rfl
  ·refine GU fun x _=>?_;simp[aU]
 ·simp only[yV,AD];exact m.born
 ·rw[yV] at c;obtain⟨d,f,rfl⟩:=yW.1 c;exact m.b d f
def cV.a{l:aL}(k:cV l):cV (l.map fun x=>(x.1,x.2.pm ρ)):=List.Pairwise.map _ (fun _ _ h=>h) k
variable {b:Nat}{h:Hd}{kn:List (List Int)}{l:aL}{evs:List Ev}{snt:List bC}{kb mb:Nat}{rbs:List Nat}{es:Array MapEntry}{clk:Nat}{ev sv:Value}
def xH(h:Hd):Prop:=∀ρ:Perm,h.k.pm ρ=h.k/\h.e.pm ρ=h.e/\h.j.pm ρ=h.j
def PA.a6(al:gS ρ F w w2)(hh:xH h)(p:PA w F b h kn l evs snt kb mb rbs es clk ev sv):PA w2 (tf ρ F) (ρ.f b) h kn (l.map fun x=>(x.1,x.2.pm ρ)) evs snt (ρ.f kb) (ρ.f mb) (rbs.map ρ.f) (es.map (MapEntry.pm ρ)) clk (ev.pm ρ) (sv.pm ρ) where
 a := by
   have:=af.j al p.t p.a;simpa[Hd.c,(hh ρ).1,(hh ρ).2.1,(hh ρ).2.2,Addr.pm] using this
 e:=p.e.i al p.z p.fr
 map:=al mb _ p.s p.map
 o:=p.o.c
 i:=p.i.a
 d := fun x hx => by
   obtain⟨y,hy,rfl⟩:=yW.1 hx;refine⟨(p.d y hy).1.j al (iG _),fun g hg=>?_⟩;simp only[qe] at hg;obtain⟨g0,h0,rfl⟩:=yE.1 hg;intro hm;obtain⟨r,hr,e⟩:=yW.1 hm;rw[ρ.Nd e] at hr;exact(p.d y hy).2 g0 h0 hr
 c:=p.c.j al (Ai _)
 f:=p.f.j al (vL _)
 t:=tf.a p.t
 z:=tf.a p.z
 s:=tf.a p.s
 fr:=fun r hr=>by
  obtain⟨r0,h0,rfl⟩:=yW.1 hr;exact tf.a (p.fr r0 h0)
def PX.a(g:gS ρ F w w2)(c:xH h){a:List Codec.Msg}(p:PX w F b h kn a evs snt):PX w2 (tf ρ F) (ρ.f b) h kn a evs snt:=by
 obtain⟨l,rfl,o,i,e,m,d,j,k,q⟩:=p;have:=(q.a6 g c).px;rw[AD] at this;exact this
end
open Md (PS Vote Bal Lft)
variable {v:Value}{x b:Nat}{R R':Nat->Prop}{o:Pl}
section
variable {ρ:Perm}{F:Nat->Prop}{w w2:World}
def Hd.l(ρ:Perm)(h:Hd):Hd:={ h with k:=h.k.pm ρ,e:=h.e.pm ρ,j:=h.j.pm ρ }
def PA.a5(al:gS ρ F w w2){h:Hd}{kn:List (List Int)}{l:aL}{evs:List Ev}{snt:List bC}{kb mb:Nat}{rbs:List Nat}{es:Array MapEntry}{clk:Nat}{ev sv:Value}(p:PA w F b h kn l evs snt kb mb rbs es clk ev sv):PA w2 (tf ρ F) (ρ.f b) (h.l ρ) kn (l.map fun x=>(x.1,x.2.pm ρ)) evs snt (ρ.f kb) (ρ.f mb) (rbs.map ρ.f) (es.map (MapEntry.pm ρ)) clk (ev.pm ρ) (sv.pm ρ) where
 a := by
   have:=af.j al p.t p.a;simpa[Hd.c,Hd.l,Addr.pm] using this
 e:=p.e.i al p.z p.fr
 map:=al mb _ p.s p.map
 o:=p.o.c
 i:=p.i.a
 d := fun x hx => by
   obtain⟨y,hy,rfl⟩:=yW.1 hx;refine⟨(p.d y hy).1.j al (iG _),fun g hg=>?_⟩;simp only[qe] at hg;obtain⟨g0,h0,rfl⟩:=yE.1 hg;intro hm;obtain⟨r,hr,e⟩:=yW.1 hm;rw[ρ.Nd e] at hr;exact(p.d y hy).2 g0 h0 hr
 c:=p.c.j al (Ai _)
 f:=p.f.j al (vL _)
 t:=tf.a p.t
 z:=tf.a p.z
 s:=tf.a p.s
 fr:=fun r hr=>by
  obtain⟨r0,h0,rfl⟩:=yW.1 hr;exact tf.a (p.fr r0 h0)
def qf(q:gS ρ F w w2){e:TypeId}{i:Nat}{n:Nat}{h:List Value}(p:∀g,v.ownBlock=some g->F g)(r:w.ownsRow 0 e i v n h):w2.ownsRow 0 e i (v.pm ρ) n (h.map (Value.pm ρ)):=by
 refine⟨by rw[yL];exact r.1,?_⟩;rcases r.2 with ⟨a,d⟩|⟨g,c,s,a, -,k,d,m,j,l⟩
 ·exact .inl ⟨by rw[a];simp,d⟩
 ·refine .inr ⟨ρ.f g,c,_,by rw[a];simp[Addr.pm],oI _,q g _ (p g (by rw[a];rfl)) k,d,m,by simpa using j,?_⟩;rw[yV,<-List.map_take,l]
def iY(d:gS ρ F w w2){g j:Nat}(c:F g)(h:w.cell? (aT g j)=some v):w2.cell? ⟨ρ.f g,j,none⟩=some (v.pm ρ):=by
 unfold World.cell? at h ⊢;cases a:w.heap[g]? with
 |none=>simp only[a] at h;cases h
 | some o =>
   simp only[a] at h;simp only[d g o c a];cases o <;> simp only[Obj.pm] at h ⊢ <;> try cases h
   simp at h ⊢;simp[h]
def bI.e(d:gS ρ R w w2)(k:∀x,R (ρ.i x)->R' x){l:List Codec.Msg}(h:bI w R v l):bI w2 R' (v.pm ρ) l:=by
 rcases h with ⟨⟨n,c,rfl⟩,C⟩|⟨g,e,rfl,u,a,t⟩
 ·exact .inl ⟨⟨n.map (Addr.pm ρ),c,by cases n <;> simp⟩,C⟩
 ·refine .inr ⟨ρ.f g,e,by simp[Addr.pm],?_,k _ (by rw[ρ.a];exact a),fun j m s=>?_⟩
  ·have:=d g _ a (yl u);exact(yk.1 this).1
  ·obtain⟨B,r,A,z,q,y⟩:=t j m s;refine⟨B.pm ρ,by simpa using iY d a r,by simpa using iY d a A,iY d a z,by simpa using iY d a q,?_⟩;have:=y.j d (iG _);exact⟨this.d,fun x p=>k x (this.c x p)⟩
def aE.zA(d:gS ρ R w w2)(c:∀x,R (ρ.i x)->R' x){l:List Int}(h:aE w R v l):aE w2 R' (v.pm ρ) l:=by
 have:=eB.j d (iG _) h;exact⟨this.d,fun x a=>c x (this.c x a)⟩
def Cs(ρ:Perm)(v:Value × Value):Value × Value:=(v.1.pm ρ,v.2.pm ρ)
def nL:∀(l:List (List Int × Vote)) (c:List (Value × Value)),(bF l c).map (Value.pm ρ)=bF l (c.map (Cs ρ))
 | a :: l, v :: c => by
   simp only[bF,y8,yN,Cx,nL l c];simp[Cs]
 |[],c=>by cases c <;> rfl
 |_::_,[]=>rfl
def nR:∀(l:List Lft) (c:List (Value × Value)),(bV l c).map (Value.pm ρ)=bV l (c.map (Cs ρ))
 | a :: l, v :: c => by
   simp only[bV,y8,yN,Cx,nR l c];simp[Cs]
 |[],c=>by cases c <;> rfl
 |_::_,[]=>rfl
def Pl.p(ρ:Perm)(o:Pl):Pl:=⟨o.l.map fun x=>(x.1,x.2.pm ρ),ρ.f o.kb,ρ.f o.m,o.k.map ρ.f,o.n.map (MapEntry.pm ρ),o.j,o.g.pm ρ,o.d.pm ρ,o.h.pm ρ,o.c.map ρ.f,o.e.pm ρ,o.a.map (Cs ρ),o.i.pm ρ,o.f.map (Cs ρ)⟩
def As:(v.pm ρ).ownBlock=some x↔v.ownBlock=some (ρ.i x):=by
 rw[qe,yE];constructor
 ·rintro⟨g,a,rfl⟩;rw[ρ.a];exact a
 ·intro h;exact⟨_,h,ρ.c x⟩
def KX{a:Nat}:x=ρ.f a↔ρ.i x=a:=⟨fun e=>by rw[e,ρ.a],fun e=>by rw[<-e,ρ.c]⟩
def Pl.r:(o.p ρ).X x↔o.X (ρ.i x):=by
 unfold Pl.X Pl.p;simp only[As,Option.isSome_map];constructor
 ·rintro(h|h|h)
  ·obtain⟨g,a,rfl⟩:=yE.1 h;rw[ρ.a];exact .inl a
  ·exact .inr (.inl h)
  ·exact .inr (.inr h)
 ·rintro(h|h|h)
  ·exact .inl (yE.2 ⟨_,h,ρ.c x⟩)
  ·exact .inr (.inl h)
  ·exact .inr (.inr h)
def Pl.s:(o.p ρ).M (ρ.f b) x↔o.M b (ρ.i x):=by
 unfold Pl.M;rw[Pl.r];refine or_congr ?_ yK;unfold Pl.U Pl.p;simp only[As,KX];refine or_congr yK (or_congr yK (or_congr ?_ yK));rw[yW];constructor
 ·rintro⟨r,a,rfl⟩;rw[ρ.a];exact a
 ·intro h;exact⟨_,h,ρ.c x⟩
end
open Go.Pm (Sup Inside Ran Sim restrict loose_live obj_back frame_calls)
open Go.Cr (fam Tabs leafLaw progOk)
structure Cl (w:World) (F:Nat->Prop):Prop where
 g:Tabs w
 f:7<=w.heap.size
 d:∀x,F x->7<=x/\∃o,w.heap[x]?=some o/\SupO fam F o
section
variable {w w':World}{F:Nat->Prop}
def Cl.j(c:Cl w F){x:Nat}(a:F x):x<w:=by
 obtain⟨-,o,b, -⟩:=c.d x a;exact(yk.1 b).1
def bR(h:Tabs w)(a:∀x,x<7->w'.heap[x]?=w.heap[x]?):Tabs w':=leafLaw.a w w' (fun b c=>a b (yg c θ)) h
def Cl.c(c:Cl w F)(f:∀x,F x->w'.heap[x]?=w.heap[x]?)(a:∀x,x<7->w'.heap[x]?=w.heap[x]?)(b:w.heap.size<=w'):Cl w' F:=
 ⟨bR c.g a,yr c.f b,fun x e=>by
  obtain⟨d,o,h,g⟩:=c.d x e;exact⟨d,o,(f x e).trans h,g⟩⟩
def Cl.i(c:Cl w F)(b:Below w w w'):Cl w' F:=c.c (fun x a=>b.block x (c.j a)) (fun x a=>b.block x (yg a c.f)) b.size
def Cl.a{e:Perm}{b:World}(h:Loose fam e b w)(j:Go.Pm.Shut fam b)(k:Tabs w):Cl w (fun x=>∃r,7<=r/\r<b.heap.size/\e.f r=x):=by
 refine⟨k,h.a,fun x g=>?_⟩;obtain⟨r,a,d,rfl⟩:=g;refine⟨loose_live h a,_,h.e r _ a (yl d),h.j j (fun i l c=>⟨i,l,c,rfl⟩) a (yl d)⟩
def Cl.e(c:Cl w F):∃(d:World) (a:Perm),Loose fam a d w/\Go.Pm.Shut fam d/\Tabs d/\Inside prog fam a d w/\(∀r,7<=r->r<d.heap.size->F (a.f r))/\(∀x,F x->7<=a.i x/\a.i x<d.heap.size)/\gS a.MS F w d/\(∀x,a.h x=x):=by
 let l:=(List.range w.heap.size).filter (fun b=>@decide (F b) (Classical.propDecidable _))
 have v:∀b,b∈l↔b<w.heap.size/\F b:=fun b=>by simp[l]
 have B:l.Nodup:=List.Pairwise.filter _ List.nodup_range;obtain⟨d,a,j,G,s,t,D,H,K,N⟩:=restrict (F:=fam) w l B (fun b p=>(c.d b ((v b).1 p).2).1) c.f (fun b p=>by
  obtain⟨-,o,C,M⟩:=c.d b ((v b).1 p).2;exact⟨o,C,M.a fun r _ n=>(v r).2 ⟨c.j n,n⟩⟩)
 have k:∀x,F x->7<=a.i x/\a.i x<d.heap.size:=fun x z=>by
  obtain⟨i,E⟩:=Kp.1 ((v x).2 ⟨c.j z,z⟩);have e:=t i x E;have I:=(ym.1 E).1;have L:a.i x=fam.gs+5+i:=by rw[<-e,a.a]
  have A:fam.gs+5=7:=rfl;rw[L,s,A];omega
 refine⟨d,a,j,G,bR c.g (fun x z=>D x z),⟨⟨j.e,j.d,j.c,j.a,j.os,fun i q=>by rw[K,N]⟩,G,j.g,j.b⟩,fun r u n=>?_,k,fun r o n C=>?_,H⟩
 ·have A:fam.gs+5=7:=rfl;rw[s,A] at n;obtain⟨b,p⟩:∃b,l[r - 7]?=some b:=⟨_,yh ω⟩;have e:=t (r - 7) b p;rw[A,show 7+(r - 7)=r by omega] at e;rw[e];exact((v b).1 (yy p)).2
 ·obtain⟨u,m⟩:=k r n;have y:=j.e (a.i r) _ u (yl m);rw[a.c,C] at y;have O:(d.heap[a.i r]'m).pm a=o:=by
   injection y with y;exact y.symm
  show d.heap[a.i r]?=_;rw[yl m,obj_back O]
def PC(w:World)(F:Nat->Prop)(b:Nat)(h:Hd)(kn:List (List Int))(ms:List Codec.Msg)(evs:List Ev)(snt:List bC):Prop:=∃F1:Nat->Prop,(∀x,F1 x->F x)/\PX w F1 b h kn ms evs snt/\Cl w F1
variable {b:Nat}{h:Hd}{kn:List (List Int)}{ms:List Codec.Msg}{evs:List Ev}{snt:List bC}
def PC.d(p:PC w F b h kn ms evs snt){F':Nat->Prop}(f:∀x,F x->F' x):PC w F' b h kn ms evs snt:=by
 obtain⟨d,e,c⟩:=p;exact⟨d,fun x a=>f x (e x a),c⟩
def PC.c(p:PC w F b h kn ms evs snt)(a:Below w w w'):PC w' F b h kn ms evs snt:=by
 obtain⟨e,f,d,c⟩:=p;exact⟨e,f,d.e a,c.i a⟩
end
open Md (Wf)
section
structure PQ (w:World) (F:Nat->Prop) (b:Nat) (S:PS) (o:Pl):Prop where
 a:PA w F b (o.q S) S.q o.l S.j (S.e.map lF) o.kb o.m o.k o.n o.j o.g o.d
 ms:o.l.map Prod.fst=S.o
 d:∀x,o.X x->F x
 vote:aE w (o.R F b) o.h S.a.a
 lead:iV w (o.R F b) o.c S.d o.e o.a
 left:tg w (o.R F b) S.i o.i o.f
variable {w w' w2:World}{F F':Nat->Prop}{b:Nat}{S S':PS}{o:Pl}{ρ:Perm}
def PQ.h(p:PQ w F b S o):PP w (aY F w) b S o:=by
 have c:jo (o.R F b) (o.R (aY F w) b) w w:=⟨yb _,fun g d _=>⟨⟨.inl d.1,d.2⟩,rfl⟩⟩;exact⟨p.a.k aY.c,p.ms,fun x a=>.inl (p.d x a),fun x a=>.inr a,p.vote.f c,p.lead.a c fun _ _=>rfl,p.left.c c fun _ _=>rfl⟩
def PP.a6(p:PP w F b S o):PQ w (fun x=>F x/\x<w) b S o:=by
 have a:jo (o.R F b) (o.R (fun x=>F x/\x<w) b) w w:=⟨yb _,fun g d e=>⟨⟨⟨d.1,e⟩,d.2⟩,rfl⟩⟩;exact⟨p.e.a1,p.ms,fun x c=>⟨p.fx x c,p.n c⟩,p.vote.f a,p.lead.a a fun _ _=>rfl,p.left.c a fun _ _=>rfl⟩
def PQ.c(p:PQ w F b S o)(h:∀x,F x->F' x):PQ w F' b S o:=by
 have a:jo (o.R F b) (o.R F' b) w w:=⟨yb _,fun g c _=>⟨⟨h g c.1,c.2⟩,rfl⟩⟩;exact⟨p.a.k h,p.ms,fun x d=>h x (p.d x d),p.vote.f a,p.lead.a a fun _ _=>rfl,p.left.c a fun _ _=>rfl⟩
def PQ.g(p:PQ w F b S o)(c:∀x,F x->x<w.heap.size->w'.heap[x]?=w.heap[x]?)(a:w.heap.size<=w'):PQ w' F b S o:=by
 have d:jo _ (o.R F b) w w':=⟨a,fun g h e=>⟨h,c g h.1 e⟩⟩;have i:=fun x f=>c x (p.d x f) (p.h.n f);exact⟨p.a.u c,p.ms,p.d,p.vote.f d,p.lead.a d i,p.left.c d fun g e=>i g (.inr (.inr e))⟩
def GC(a:Option Nat):(eb a).pm ρ=eb (a.map ρ.f):=by cases a <;> simp[eb,Addr.pm]
def iV.d{w:World}{R:Nat->Prop}{d:Option Nat}{L:Option Bal}{c:Value}{a:List (Value × Value)}{x:Nat}{B:Bal}(f:d=some x)(e:L=some B)(h:fD w R B x c a):iV w R d L c a:=by rw[f,e];exact h
def PQ.e(p:PQ w F b S o)(k:gS ρ F w w2):PQ w2 (tf ρ F) (ρ.f b) S (o.p ρ):=by
 have j:∀x,o.R F b (ρ.i x)->(o.p ρ).R (tf ρ F) (ρ.f b) x:=fun x h=>⟨h.1,fun C=>h.2 (Pl.s.1 C)⟩;have c:gS ρ (o.R F b) w w2:=fun r I G D=>k r I G.1 D;have H:(o.q S).l ρ=(o.p ρ).q S:=by
  unfold Pl.q zc Hd.l Pl.p;simp only[GC]
 refine⟨?_,?_,fun x E=>p.d _ (Pl.r.1 E),p.vote.zA c j,?_,?_⟩
 ·have:=p.a.a5 k;rw[H] at this;exact this
 ·show (o.l.map fun x=>(x.1,x.2.pm ρ)).map Prod.fst=S.o;rw[AD];exact p.ms
 ·rcases p.lead.cases with ⟨e,s⟩|⟨x,B,e,s,m⟩
  ·have:(o.p ρ).c=none:=by unfold Pl.p;simp[e]
   rw[this,s];trivial
  ·refine iV.d (x:=ρ.f x) (by unfold Pl.p;simp[e]) s ⟨?_,?_,?_,fun i a v q A=>?_⟩
   ·have:=af.j k (p.d x (.inl e)) m.c;simpa[bu,Pl.p] using this
   ·show (o.a.map _).length=_;rw[yL];exact m.f
   ·have:=qf k (fun g y=>p.d g (.inr (.inl ⟨by rw[e];rfl,y⟩))) m.d;rw[nL] at this;exact this
   ·have d:(o.a.map _)[i]?=some v:=A;rw[yZ] at d;obtain⟨u,t,rfl⟩:=yE.1 d;obtain⟨z,n⟩:=m.e i a u q t;exact⟨z.zA c j,n.zA c j⟩
 ·refine⟨?_,?_,fun i a v q A=>?_⟩
  ·show (o.f.map _).length=_;rw[yL];exact p.left.f
  ·have:=qf k (fun g y=>p.d g (.inr (.inr y))) p.left.d;rw[nR] at this;exact this
  ·have d:(o.f.map _)[i]?=some v:=A;rw[yZ] at d;obtain⟨u,t,rfl⟩:=yE.1 d;obtain⟨z,n⟩:=p.left.e i a u q t;exact⟨z.zA c j,n.e c j⟩
def PZ(w:World)(F:Nat->Prop)(b:Nat)(S:PS):Prop:=∃o,PQ w F b S o
def PZ.a(p:PZ w F b S)(c:∀x,F x->x<w.heap.size->w'.heap[x]?=w.heap[x]?)(a:w.heap.size<=w'):PZ w' F b S:=p.imp fun _ p=>p.g c a
def PZ.e(p:PZ w F b S)(h:∀x,F x->F' x):PZ w F' b S:=p.imp fun _ p=>p.c h
def PZ.d(p:PZ w F b S):F b:=p.elim fun _ p=>p.a.t
def PZ.f(p:PZ w F b S):b<w:=p.elim fun _ p=>p.a.a.f
def PZ.c(p:PZ w F b S)(a:gS ρ F w w2):PZ w2 (tf ρ F) (ρ.f b) S:=p.elim fun _ p=>⟨_,p.e a⟩
def PK(w:World)(F:Nat->Prop)(b:Nat)(S:PS):Prop:=∃F1:Nat->Prop,(∀x,F1 x->F x)/\PZ w F1 b S/\Cl w F1
def wY(h:Tabs w):CH w:=fun i c=>by
 have a:=h.2 i c;have:∀i,i<64->(Go.Cr.gO.getD i 0:Int)=((Lib.deBruijn64tab.getD i 0:Nat):Int):=θ;rw[this i c] at a;exact a
def K2{f:FuncId}(hf:fam f=true)(Y:fam.leaf f=false)(d:List Value)(j:∀v∈d,∀X:Perm,v.pm X=v){v:Value}(u:∀X:Perm,v.pm X=v)
 (K:∀Q W P L,PP Q W P S L->CH Q->¬W 1->Do f (Value.pointer (some ⟨P,0,none⟩)::d).toArray v Q W P L S') (p:PZ w F b S) (c:Cl w F) :
 Calls prog f (Value.pointer (some ⟨b,0,none⟩)::d).toArray w fun e H=>e=.returned v/\cW F w H/\PK H (aY F w) b S':=by
 have hb:=p.d;obtain⟨T,q,B,hS,hT,hI,E,l,U, -⟩:=c.e;obtain⟨L,M⟩:=p.c U;have G:=fun x h=>by
  have:F (q.f x):=h;have C:=l _ this;rwa [q.a] at C
 have t:=K T _ (q.i b) L M.h (wY hT) (fun e=>by
  rcases e with e|e
  ·have:=(G 1 e).1;omega
  ·have:=B.c;omega)
 have y:=l b hb;have Z:=frame_calls progOk leafLaw hI hT c.g hf Y (fun v u=>by
  rw[Cy] at u;rcases yF.1 u with rfl|u
  ·intro σ N;have:=N.1 _ y.1 y.2;simp[Addr.pm,this]
  ·intro σ _;exact j v u σ) t (fun e H C=>⟨v,C.1⟩)
 have s:((Value.pointer (some ⟨q.i b,0,none⟩)::d).toArray.map (Value.pm q))=(Value.pointer (some ⟨b,0,none⟩)::d).toArray:=by
  rw[Fj,yN,iL fun v u=>j v u q];simp[Addr.pm,q.c]
 rw[s] at Z;refine Z.mono ?_;rintro e H ⟨v1,A,m,rfl,⟨R,o',D⟩,a, -⟩;obtain rfl:v1=v:=by
  injection R
 have V:Loose fam m A H:=⟨a.d.c,a.d.g,a.d.d,a.d.e,a.d.os,fun f=>by rw[a.e.1];exact B.g f,a.e.2.2.trans B.b⟩;have O:=fun x h=>a.j x (yg h c.f) fun r n _ e=>by
  have:=loose_live B n;have:7<=q.f r:=this;omega
 refine⟨by rw[u],⟨a.d.os.trans (a.os.trans B.os.symm),a.o,a.q,a.l,fun k hk hn=>a.j k hk fun r n z e=>hn (e▸E r n z)⟩,fun x=>∃r,7<=r/\r<A.heap.size/\m.f r=x,fun x h=>?_,?_,Cl.a V a.m (bR c.g O)⟩
 ·obtain⟨r,n,z,rfl⟩:=h;by_cases K:r<T
  ·rw[a.c r K];exact .inl (E r n K)
  ·exact .inr (a.k r ω z)
 ·have hq:=D.c.a6;have I:∀r,(aY (tf q.MS F) T r/\r<A.heap.size)->7<=r:=fun r h=>by
   rcases h.1 with C|C
   ·exact(G r C).1
   ·have:=B.c;omega
  have:=hq.e (fun r o h ho=>a.d.c r o (I r h) ho);rw[show m.f (q.i b)=b by rw[a.c _ y.2,q.c]] at this;exact⟨_,this.c fun x h=>⟨m.i x,I _ h,h.2,m.c x⟩⟩
end
end
section
open Go.RowKit
open Go.Pm (Perm SupO FixS)
open Go.Cr (fam Tabs)
open Md (PS Grp Wf)
variable {i x:Nat}{F:Nat->Prop}{S:PS}{v:Value}{σ:Perm}
section
structure GQ (w:World) (gb pb:Nat) (bl:Nat->Nat) (Fp:Nat->Nat->Prop) (Fn:Nat->Prop) (G:Grp) (nv:Value):Prop where
 net:cY w Fn gb (sT pb G.n G.n) G.c G.a nv
 d:af w pb 102 ((List.range G.n).map fun i=>Value.pointer (some ⟨bl i,0,none⟩)).toArray
 c:∀i,i<G.n->PZ w (Fp i) (bl i) (G.b i)
 dis:∀i j x,i<G.n->j<G.n->Fp i x->Fp j x->i=j
 e:∀i x,i<G.n->Fp i x->¬Fn x
 a:∀i,i<G.n->¬Fp i gb/\¬Fp i pb
 r:¬Fn gb/\¬Fn pb
 t:gb≠pb
 bn:∀x,Fn x->x<w.heap.size
 q:∀i,i<G.n->Cl w (Fp i)
 g:7<=gb/\7<=pb
 u:∀x,Fn x->7<=x
def Wh(gb pb n:Nat)(Fp:Nat->Nat->Prop)(Fn:Nat->Prop):Nat->Prop:=fun x=>x=gb\/x=pb\/Fn x\/∃i,i<n/\Fp i x
def GY(w:World)(FG:Nat->Prop)(gb:Nat)(G:Grp):Prop:=∃pb bl Fp Fn nv,GQ w gb pb bl Fp Fn G nv/\∀x,Wh gb pb G.n Fp Fn x->FG x
def GT(w w':World)(FG:Nat->Prop)(gb:Nat)(G:Grp):Prop:=cW FG w w'/\GY w' (aY FG w) gb G
variable {w w' w1 w2:World}{gb pb:Nat}{bl:Nat->Nat}{Fp:Nat->Nat->Prop}{Fn:Nat->Prop}{G G1 G2:Grp}{nv:Value}{FG:Nat->Prop}
def GQ.s(g:GQ w gb pb bl Fp Fn G nv)(b:i<G.n)(a:Fp i x):x<w:=(g.q i b).j a
def GQ.lp(g:GQ w gb pb bl Fp Fn G nv)(b:i<G.n)(a:Fp i x):7<=x:=((g.q i b).d x a).1
def GQ.lw(g:GQ w gb pb bl Fp Fn G nv):7<=w.heap.size:=yr g.g.1 (Nat.le_of_lt g.net.a.f)
def GQ.b(g:GQ w gb pb bl Fp Fn G nv)(a:i<G.n):w.cell? (aT pb i)=some (.pointer (some ⟨bl i,0,none⟩)):=g.d.a i _ (by simp[a])
def GQ.c0(g:GQ w gb pb bl Fp Fn G nv):w.cell? (aT gb 0)=some (sT pb G.n G.n):=g.net.a.a 0 _ rfl
def GQ.a0(g:GQ w gb pb bl Fp Fn G nv)(b:i<G.n)(a:cW (Fp i) w w'):w'.cell? (aT gb 0)=some (sT pb G.n G.n):=(World.cell?_of_block (a.block gb g.net.a.f (g.a i b).1)).trans g.c0
def GQ.y(g:GQ w gb pb bl Fp Fn G nv)(b:i<G.n)(a:cW (Fp i) w w'):w'.cell? (aT pb i)=some (.pointer (some ⟨bl i,0,none⟩)):=(World.cell?_of_block (a.block pb g.d.f (g.a i b).2)).trans (g.b b)
def GQ.k(g:GQ w gb pb bl Fp Fn G nv)(d:∀x,Wh gb pb G.n Fp Fn x->w'.heap[x]?=w.heap[x]?)(e:∀x,x<7->w'.heap[x]?=w.heap[x]?)(b:w.heap.size<=w'):GQ w' gb pb bl Fp Fn G nv:=
 ⟨⟨(d gb (.inl rfl)).trans g.net.a,g.net.b.i fun x a=>d x (.inr (.inr (.inl (g.net.b.c x a))))⟩,(d pb (.inr (.inl rfl))).trans g.d,fun i c=>(g.c i c).a (fun x a _=>d x (.inr (.inr (.inr ⟨i,c,a⟩)))) b,g.dis,g.e,g.a,g.r,g.t,fun x a=>yg (g.bn x a) b,fun i c=>(g.q i c).c (fun x a=>d x (.inr (.inr (.inr ⟨i,c,a⟩)))) e b,g.g,g.u⟩
def GQ.z(g:GQ w gb pb bl Fp Fn G nv)(b:Wh gb pb G.n Fp Fn x):7<=x/\x<w:=by
 rcases b with rfl|rfl|h|⟨i,a,h⟩
 ·exact⟨g.g.1,g.net.a.f⟩
 ·exact⟨g.g.2,g.d.f⟩
 ·exact⟨g.u x h,g.bn x h⟩
 ·exact⟨g.lp a h,g.s a h⟩
def GQ.o(g:GQ w gb pb bl Fp Fn G nv)(b:Below w w w'):GQ w' gb pb bl Fp Fn G nv:=g.k (fun x a=>b.block x (g.z a).2) (fun x a=>b.block x (yg a g.lw)) b.size
def oG{e:TypeId}{k:Nat}{m:Nat}{h:List Value}(r:w.ownsRow 0 e k v m h)(f:∀g,v.ownBlock=some g->F g)(l:∀x,F x->7<=x)(a:FixS fam F σ):v.pm σ=v:=by
 rcases r.2 with ⟨b, -⟩|⟨g,d,j,b, -⟩
 ·simp_all
 ·have c:=f g (by rw[b];rfl);have:=a.1 g (l g c) c;simp_all
def PQ.f{b:Nat}{o:Pl}(p:PQ w F b S o)(d:∀x,F x->7<=x):SupO fam F (.cells ((o.q S).c (sT o.kb S.n S.n) (.map (some o.m)) o.g o.d) 159 (0,0)):=by
 intro j a;have q:=a.1 o.kb (d _ p.a.z) p.a.z;have l:=a.1 o.m (d _ p.a.s) p.a.s;have f:=oG p.vote.d (fun g c=>(p.vote.c g c).1) d a;have k:(eb o.c).pm j=eb o.c:=by
  cases r:o.c with
  |none=>simp[eb]
  | some x =>
    have e:=p.d x (.inl r);have:=a.1 x (d x e) e;simp[eb,Addr.pm,this]
 have s:=oG p.left.d (fun g c=>p.d g (.inr (.inr c))) d a;have h:=oG p.a.c.d (fun g c=>p.a.c.c g c) d a;have m:=oG p.a.f.d (fun g c=>p.a.f.c g c) d a;simp[Obj.pm,Pl.q,zc,Hd.c,f,k,s,h,m,Addr.pm,q,l]
def GQ.put(g:GQ w gb pb bl Fp Fn G nv)(h:i<G.n)(f:cW (Fp i) w w1)(C:PK w1 (aY (Fp i) w) (bl i) S) :
 ∃q,GQ w1 gb pb bl q Fn (G.Nk i S) nv/\∀x,Wh gb pb G.n q Fn x->aY (Wh gb pb G.n Fp Fn) w x:=by
 obtain⟨A,l,B,s⟩:=C;have z:=g.net.a.f;have r:=g.d.f;have m:=f.size;have o:∀j x,j<G.n->j≠i->Fp j x->w1.heap[x]?=w.heap[x]?:=fun j x c t a=>f.block x (g.s c a) fun e=>t (g.dis j i x c h a e);refine⟨fun j x=>if j=i then A x else Fp j x,⟨⟨(f.block gb z (g.a i h).1).trans g.net.a,g.net.b.i fun x a=>f.block x (g.net.b.k a) fun e=>g.e i x h e (g.net.b.c x a)⟩,(f.block pb r (g.a i h).2).trans g.d,fun j c=>?_,fun j k x c u a b=>?_,fun j x c a b=>?_,fun j c=>?_,g.r,g.t,fun x a=>yg (g.bn x a) m,fun j c=>?_,g.g,g.u⟩,fun x a=>?_⟩
 ·show PZ w1 (fun x=>if j=i then A x else Fp j x) _ (if j=i then S else G.b j);by_cases e:j=i
  ·subst e;simp only[if_true];exact B
  ·simp only[if_neg e];exact(g.c j c).a (fun x a _=>o j x c e a) m
 ·by_cases e:j=i <;> by_cases p:k=i <;> simp only[e,p,if_true,if_false] at a b ⊢
  ·exfalso
   rcases l x a with d|d
   ·exact p (g.dis k i x u h b d)
   ·have:=g.s u b;omega
  ·exfalso
   rcases l x b with d|d
   ·exact e (g.dis j i x c h a d)
   ·have:=g.s c a;omega
  ·exact g.dis j k x c u a b
 ·by_cases e:j=i
  ·simp only[e,if_true] at a;rcases l x a with d|d
   ·exact g.e i x h d b
   ·have:=g.bn x b;omega
  ·simp only[if_neg e] at a;exact g.e j x c a b
 ·by_cases e:j=i
  ·simp only[e,if_true];refine⟨fun d=>?_,fun d=>?_⟩ <;> rcases l _ d with y|y
   ·exact(g.a i h).1 y
   ·omega
   ·exact(g.a i h).2 y
   ·omega
  ·simp only[if_neg e];exact g.a j c
 ·by_cases e:j=i
  ·simp only[e,if_true];exact s
  ·simp only[if_neg e];refine(g.q j c).c (fun x a=>o j x c e a) (fun x a=>f.block x (yg a g.lw) fun e=>?_) m;have:=g.lp h e;omega
 ·rcases a with e|e|e|⟨j,c,e⟩
  ·exact .inl (.inl e)
  ·exact .inl (.inr (.inl e))
  ·exact .inl (.inr (.inr (.inl e)))
  ·by_cases p:j=i
   ·simp only[p,if_true] at e;rcases l x e with d|d
    ·exact .inl (.inr (.inr (.inr ⟨i,h,d⟩)))
    ·exact .inr d
   ·simp only[if_neg p] at e;exact .inl (.inr (.inr (.inr ⟨j,c,e⟩)))
def GQ.p(g:GQ w gb pb bl Fp Fn G nv)(c:i<G.n)(Y:G.a.length+(G.b i).e.length<=1000000) :
 Calls prog 62 #[pT gb 0,.pointer (some ⟨bl i,0,none⟩)] w fun e m=>e=.returned (.tuple #[])/\cW (Wh gb pb G.n Fp Fn) w m/\∃B E,GQ m gb pb bl Fp B (G.MB i) E/\∀x,B x->aY Fn w x:=by
 obtain⟨o,p⟩:=g.c i c;refine(FY p.a g.net (fun x a=>g.e i x c a) (g.a i c).1 ν).mono ?_;rintro e m ⟨rfl,u,O,N,l⟩;have q:=u.size;have s:=g.q i c;have k:=p.a.t;have z:∀j x,j<G.n->j≠i->Fp j x->x≠bl i:=fun j x b t a e=>t (g.dis j i x b c a (e▸k));have d:∀x,x<w.heap.size->x≠bl i->¬Fn x->x≠gb->m.heap[x]?=w.heap[x]?:=fun x a h2 h3 W=>u.block x a fun e=>by
  grind
 have r:=fun x a t=>d x (g.s c a) t (g.e i x c a) (fun e=>(g.a i c).1 (e▸a));have A:=fun x a=>d x (yg a g.lw) (fun e=>by have:=g.lp c k;omega) (fun e=>by have:=g.u x e;omega) (fun e=>by have:=g.g.1;omega);have U:∀x,({ o with d:=sN }:Pl).M (bl i) x->o.M (bl i) x:=fun x a=>by
  rcases a with (h|h|h|h|h)|h
  ·exact .inl (.inl h)
  ·exact .inl (.inr (.inl h))
  ·exact .inl (.inr (.inr (.inl h)))
  ·exact .inl (.inr (.inr (.inr (.inl h))))
  ·cases h
  ·exact .inr h
 have K:jo (o.R (Fp i) (bl i)) (({ o with d:=sN }:Pl).R (Fp i) (bl i)) w m:=⟨q,fun x C _=>⟨⟨C.1,fun h=>C.2 (U x h)⟩,r x C.1 fun e=>C.2 (.inl (.inl e))⟩⟩;have P:∀x,o.X x->m.heap[x]?=w.heap[x]?:=fun x a=>r x (p.d x a) fun e=>p.h.nx a (.inl e);have Q:PQ m (Fp i) (bl i) { G.b i with e:=[] } { o with d:=sN }:=⟨O,p.ms,p.d,p.vote.f K,p.lead.a (o:=o) K P,p.left.c K fun x a=>P x (.inr (.inr a))⟩;refine⟨rfl,u.e fun x _ h=>?_,fun x=>aY Fn w x/\x<m,N,⟨⟨l.a,l.b.d,fun x a=>⟨l.b.c x a,l.b.k a⟩⟩,?_,fun j b=>?_,g.dis,fun j x b a D=>?_,g.a,⟨fun h=>?_,fun h=>?_⟩,g.t,fun x a=>a.2,fun j b=>?_,g.g,fun x a=>?_⟩,fun x a=>a.1⟩
 ·rcases h with h|h|h
  ·exact .inr (.inr (.inr ⟨i,c,h▸k⟩))
  ·exact .inr (.inr (.inl h))
  ·exact .inl h
 ·exact(d pb g.d.f (fun e=>(g.a i c).2 (e▸k)) g.r.2 (fun e=>g.t e.symm)).trans g.d
 ·show PZ m (Fp j) (bl j) (if j=i then { G.b i with e:=[] } else G.b j);by_cases e:j=i
  ·subst e;rw[if_pos rfl];exact⟨_,Q⟩
  ·rw[if_neg e];exact(g.c j b).a (fun x a I=>d x I (z j x b e a) (g.e j x b a) (fun H=>(g.a j b).1 (H▸a))) q
 ·rcases D.1 with f|f
  ·exact g.e j x b a f
  ·have:=g.s b a;omega
 ·rcases h.1 with f|f
  ·exact g.r.1 f
  ·have:=g.net.a.f;omega
 ·rcases h.1 with f|f
  ·exact g.r.2 f
  ·have:=g.d.f;omega
 ·by_cases e:j=i
  ·subst e;refine⟨bR s.g A,yr s.f q,fun x a=>?_⟩;obtain⟨L,o',Z,hs⟩:=s.d x a;by_cases T:x=bl j
   ·subst T;exact⟨L,_,O.a,Q.f fun y V=>g.lp c V⟩
   grind
  ·exact(g.q j b).c (fun x a=>d x (g.s b a) (z j x b e a) (g.e j x b a) (fun H=>(g.a j b).1 (H▸a))) A q
 ·rcases a.1 with f|f
  ·exact g.u x f
  grind
def GQ.l(g:GQ w gb pb bl Fp Fn G nv)(d:cW (fun x=>Fn x\/x=gb) w w'){k:List bC}{l:Value}(m:cY w' (aY Fn w) gb (sT pb G.n G.n) G.c k l):∃j,GQ w' gb pb bl Fp j { G with a:=k } l/\∀x,j x->aY Fn w x:=by
 have q:=d.size;have r:=g.net.a.f;have o:=g.d.f;have f:=fun i x c a=>d.block x (g.s c a) fun e=>by
  rcases e with e|e
  ·exact g.e i x c a e
  ·exact(g.a i c).1 (e▸a)
 refine⟨fun x=>aY Fn w x/\x<w',⟨⟨m.a,m.b.d,fun x a=>⟨m.b.c x a,m.b.k a⟩⟩,(d.block pb o (fun e=>?_)).trans g.d,fun i c=>(g.c i c).a (fun x a _=>f i x c a) q,g.dis,fun i x c a p=>?_,g.a,⟨fun h=>?_,fun h=>?_⟩,g.t,fun x a=>a.2,fun i c=>(g.q i c).c (fun x a=>f i x c a) (fun x a=>d.block x (yg a g.lw) fun e=>?_) q,g.g,fun x a=>?_⟩,fun x a=>a.1⟩
 ·rcases e with e|e
  ·exact g.r.2 e
  ·exact g.t e.symm
 ·rcases p.1 with b|b
  ·exact g.e i x c a b
  grind
 ·rcases h.1 with b|b
  ·exact g.r.1 b
  ·omega
 ·rcases h.1 with b|b
  ·exact g.r.2 b
  ·omega
 ·rcases e with e|e
  ·have:=g.u x e;omega
  ·have:=g.g.1;omega
 ·rcases a.1 with b|b
  ·exact g.u x b
  ·have:=g.lw;omega
def Wh.a{n:Nat}{b:Nat->Prop}(h:∀x,b x->aY Fn w x)(x:Nat)(a:Wh gb pb n Fp b x):aY (Wh gb pb n Fp Fn) w x:=by
 rcases a with a|a|a|a
 ·exact .inl (.inl a)
 ·exact .inl (.inr (.inl a))
 ·exact(h x a).imp (fun h=>.inr (.inr (.inl h))) id
 ·exact .inl (.inr (.inr (.inr a)))
def GY.c(g:GY w FG gb G){F':Nat->Prop}(h:∀x,FG x->F' x):GY w F' gb G:=by
 obtain⟨d,e,c,j,f,g,b⟩:=g;exact⟨d,e,c,j,f,g,fun x a=>h x (b x a)⟩
def GY.a(g:GY w FG gb G)(e:Below w w w'):GY w' FG gb G:=by
 obtain⟨c,d,b,h,f,g,a⟩:=g;exact⟨c,d,b,h,f,g.o e,a⟩
def GT.a(a:GT w w1 FG gb G1)(b:GT w1 w2 (aY FG w) gb G2):GT w w2 FG gb G2:=by
 have:=a.1.size;refine⟨a.1.c b.1,b.2.c fun x c=>?_⟩;rcases c with h|h
 ·exact h
 ·exact .inr ω
def GT.b(a:GT w w1 FG gb G1)(b:Below w1 w1 w2):GT w w2 FG gb G1:=⟨a.1.c (cW.d b),a.2.a b⟩
def GQ.f(g:GQ w gb pb bl Fp Fn G nv)(p:∀x,Wh gb pb G.n Fp Fn x->FG x)(k:i<G.n)(b:cW (Fp i) w w1)(z:PK w1 (aY (Fp i) w) (bl i) S)(y:G.a.length+S.e.length<=1000000) :
 Calls prog 62 #[pT gb 0,.pointer (some ⟨bl i,0,none⟩)] w1 fun e r=>e=.returned (.tuple #[])/\GT w r FG gb ((G.Nk i S).MB i):=by
 obtain⟨f,t,c⟩:=g.put k b z;have m:(G.Nk i S).b i=S:=if_pos rfl;refine(t.p k (by rw[m];exact y)).mono ?_;rintro e r ⟨rfl,a,j,o,u,l⟩;have q:=b.size;refine⟨rfl,⟨a.os.trans b.os,a.tape.trans b.tape,a.output.trans b.output,yr q a.size,fun x d s=>?_⟩,pb,bl,f,j,o,u,fun x d=>?_⟩
 ·refine(a.block x (yg d q) fun e=>?_).trans (b.block x d fun e=>s (p x (.inr (.inr (.inr ⟨i,k,e⟩)))));rcases c x e with h|h
  ·grind
  ·omega
 ·rcases Wh.a l x d with h|h
  ·exact(c x h).imp (p x) id
  ·exact .inr ω
end
open Md (Vote Bal Lft MsgW Sends FrW)
def vN(n:Nat)(a:n<=6):Md.bj (gD n)/\gD n=(2:Int) ^ n - 1:=by
 match n,a with
 |0,_|1,_|2,_|3,_|4,_|5,_|6,_=>exact⟨⟨θ,θ⟩,θ⟩
def F9{w:World}{R:Nat->Prop}(f:Codec.Frame)(j n:Nat)(hn:n<=6)(s:f.c=1\/f.c=2\/f.c=3\/f.c=4\/f.c=5\/f.c=6\/f.c=7)(I:Md.bj f.b)(h0:∀m∈f.d,0<=m.a)(E:f.d.length<=1000){rv cv mv:Value}(Q:ud w R f rv cv mv) :
 Calls prog 116 #[jq f rv cv mv,J j,J n] w fun e b=>e=.returned (.bool (Md.na f j n))/\Below w w b:=by
 obtain⟨G,B,Y⟩:=Q.row.h;obtain⟨C,F,U⟩:=Q.cut.h;obtain⟨x,A,L⟩:=Q.msgs.d;have hF:=vN n hn;have D:=af.d w _ rfl 165 #[J f.c,J f.f,J f.j,J f.b,J f.h,J f.a,J f.e,.slice G f.g.length B,.slice C f.i.length F,.slice x f.d.length A];have u:Hid (Below w w (w.alloc (.cells #[J f.c,J f.f,J f.j,J f.b,J f.h,J f.a,J f.e,.slice G f.g.length B,.slice C f.i.length F,.slice x f.d.length A] 165))):=(Below.refl _ _).alloc (yb _) _;have HM:Hid (∀b,Below w w b->Calls prog 170 #[.slice x f.d.length A,J n] b fun e i=>e=.returned (.bool (f.d.all (Md.dr n)))/\Below b b i):=fun b hb=>by
  have:=zp f.d n mv (Q.msgs.c (gI hb)) h0 E;rw[L] at this;exact this
 have N:=ah (fun b=>vV f n s G C x B F A b);have HR:=ah (kO f.g n G B);have HC:=ah (kO f.i n C F);have HE:=ah (fun b=>ml n b hn);have hA:=(cK I hF.1).1;rw[Y,U,L];clear Y U L Q s I h0 E;obtain⟨v,hv⟩:∃v,Md.na f j n=v:=⟨_,rfl⟩;have c:Hid (v=((f.j == (j:Int)) && (f.f != (j:Int)) && decide (f.f<(n:Int)) && (Md.cX f.b (gD n) == 0) && Md.dp f.g n && Md.dp f.i n && f.d.all (Md.dr n) && Md.cH f n)):=by
  rw[Hid,<-hv];unfold Md.na;rw[hF.2]
 rw[hv];clear hv hF;unfold jq;generalize f.g.length=rn at D u N HR ⊢;generalize f.i.length=cn at D u N HC ⊢;generalize f.d.length=V at D u N HM ⊢;generalize Md.dp f.g n=b5 at HR c;generalize Md.dp f.i n=b6 at HC c;generalize f.d.all _=b7 at HM c;generalize Md.cH f n=b8 at N c;generalize Md.cX _ (gD n)=z at hA c;obtain⟨fk,O,fd,fm,fv,fb,fo,Q,fc,fg⟩:=f;simp only at D u N hA c ⊢;go_enter Tryz.func116,Tryz.ntmps116
 refine wp_seq_k fun K d=>?_;have a0:=ah d;clear d;go_wp2_with fail
 refine a0.out _ _ ?_;clear a0 K;have Z:Hid ((w.alloc (.cells #[J fk,J O,J fd,J fm,J fv,J fb,J fo,.slice G rn B,.slice C cn F,.slice x V A] 165)).heap.size=w.heap.size+1):=by simp[Hid]
 generalize w.alloc _=l at D u Z ⊢;have o:Hid (∀b,Below l l b->b.cell? (aT w 0)=some (J fk)/\b.cell? (aT w 1)=some (J O)/\b.cell? (aT w 2)=some (J fd)/\b.cell? (aT w 3)=some (J fm)/\b.cell? (aT w 4)=some (J fv)/\b.cell? (aT w 5)=some (J fb)/\b.cell? (aT w 6)=some (J fo)/\b.cell? (aT w 7)=some (.slice G rn B)/\b.cell? (aT w 8)=some (.slice C cn F)/\b.cell? (aT w 9)=some (.slice x V A)):=fun b t=>by
  have:=D.c t D.f;exact⟨this.a 0 _ rfl,this.a 1 _ rfl,this.a 2 _ rfl,this.a 3 _ rfl,this.a 4 _ rfl,this.a 5 _ rfl,this.a 6 _ rfl,this.a 7 _ rfl,this.a 8 _ rfl,this.a 9 _ rfl⟩
 have T:Hid (∀b,Below l l b->Calls prog 170 #[.slice x V A,J n] b fun e i=>e=.returned (.bool b7)/\Below l l i):=fun b t=>by
  refine(HM.out b (u.out.trans (t.mono u.out.size))).mono ?_;rintro e i ⟨rfl,h⟩;exact⟨rfl,t.trans (h.mono t.size)⟩
 have W:Hid (∀b,Below l l b->Calls prog 171 #[.agg #[J fk,J O,J fd,J fm,J fv,J fb,J fo,.slice G rn B,.slice C cn F,.slice x V A],J n] b fun e i=>e=.returned (.bool b8)/\Below l l i):=fun b t=>by
  refine(N.out b).mono ?_;rintro e i ⟨rfl,h⟩;exact⟨rfl,t.trans (h.mono t.size)⟩
 have g:Hid (∀b,Below l l b->Below w w b):=fun b t=>u.out.trans (t.mono u.out.size);clear D u HM N Z;generalize w.heap.size=X at o g ⊢;go_wp2_with fail
 refine wp_region_held_drew (S:=fun b=>b.cell? (aT X 0)=some (J fk)/\b.cell? (aT X 1)=some (J O)/\b.cell? (aT X 2)=some (J fd)/\b.cell? (aT X 3)=some (J fm)/\b.cell? (aT X 4)=some (J fv)/\b.cell? (aT X 5)=some (J fb)/\b.cell? (aT X 6)=some (J fo)/\b.cell? (aT X 7)=some (.slice G rn B)/\b.cell? (aT X 8)=some (.slice C cn F)/\b.cell? (aT X 9)=some (.slice x V A)) rfl (o.out _ (Below.refl _ _).drew) (fun a=>?_)
 (iterate 3 refine ψ ?_)
 cases y:(fd == j) with
 | false =>
   (iterate 45 refine ψ ?_)
   refine wpAnyH_done κ ?_ _;clear a;go_wp2_with fail
   go_ret;exact⟨by rw[c.out,y];rfl,g.out _ (Below.refl _ _).drew⟩
 | true =>
   refine wk 3 ?_;refine wk 4 ?_;refine wk 5 ?_;refine wk 6 ?_;refine wk 7 ?_;cases H:(O != (j:Int)) with
   | false =>
     refine wk 8 ?_;refine wk 9 ?_;refine wk 10 ?_;refine wu 11 ?_;refine wu 12 ?_;refine wu 13 ?_;refine wu 14 ?_;refine wk 15 ?_;refine wk 16 ?_;refine wu 17 ?_;refine wu 18 ?_;refine wu 19 ?_;refine wu 20 ?_;refine wu 21 ?_;refine wu 22 ?_;refine wk 23 ?_;refine wk 24 ?_;refine wu 25 ?_;refine wu 26 ?_;refine wu 27 ?_;refine wu 28 ?_;refine wk 29 ?_;refine wk 30 ?_;refine wu 31 ?_;refine wu 32 ?_;refine wu 33 ?_;refine wu 34 ?_;refine wk 35 ?_;refine wk 36 ?_;refine wu 37 ?_;refine wu 38 ?_;refine wu 39 ?_;refine wu 40 ?_;refine wk 41 ?_;refine wk 42 ?_;refine wu 43 ?_;refine wu 44 ?_;refine wu 45 ?_;refine wk 46 ?_;refine wk 47 ?_;refine wpAnyH_done κ ?_ _;clear a;go_wp2_with fail
     go_ret;exact⟨by rw[c.out,y,H];rfl,g.out _ (Below.refl _ _).drew⟩
   | true =>
     refine wk 8 ?_;refine wk 9 ?_;refine wk 10 ?_;refine wk 11 ?_;refine wk 12 ?_;refine wk 13 ?_;cases M:decide (O<(n:Int)) with
     | false =>
       refine wk 14 ?_;refine wk 15 ?_;refine wk 16 ?_;refine wu 17 ?_;refine wu 18 ?_;refine wu 19 ?_;refine wu 20 ?_;refine wu 21 ?_;refine wu 22 ?_;refine wk 23 ?_;refine wk 24 ?_;refine wu 25 ?_;refine wu 26 ?_;refine wu 27 ?_;refine wu 28 ?_;refine wk 29 ?_;refine wk 30 ?_;refine wu 31 ?_;refine wu 32 ?_;refine wu 33 ?_;refine wu 34 ?_;refine wk 35 ?_;refine wk 36 ?_;refine wu 37 ?_;refine wu 38 ?_;refine wu 39 ?_;refine wu 40 ?_;refine wk 41 ?_;refine wk 42 ?_;refine wu 43 ?_;refine wu 44 ?_;refine wu 45 ?_;refine wk 46 ?_;refine wk 47 ?_;refine wpAnyH_done κ ?_ _;clear a;go_wp2_with fail
       go_ret;exact⟨by rw[c.out,y,H,M];rfl,g.out _ (Below.refl _ _).drew⟩
     | true =>
       refine wk 14 ?_;refine wk 15 ?_;refine wk 16 ?_;refine wk 17 ?_;refine wk 18 ?_;refine wk 19 ?_;refine we 20 fun K d=>?_;go_simp;refine(HE.out _).mono ?_;rintro e S ⟨rfl,rfl⟩;refine d.out _ _ (o.out _ (Below.refl _ _).drew) (fun a=>?_);clear d K;try simp only[pU]
       refine wk 21 ?_;cases P:(z == 0) with
       | false =>
         refine wk 22 ?_;refine wk 23 ?_;refine wk 24 ?_;refine wu 25 ?_;refine wu 26 ?_;refine wu 27 ?_;refine wu 28 ?_;refine wk 29 ?_;refine wk 30 ?_;refine wu 31 ?_;refine wu 32 ?_;refine wu 33 ?_;refine wu 34 ?_;refine wk 35 ?_;refine wk 36 ?_;refine wu 37 ?_;refine wu 38 ?_;refine wu 39 ?_;refine wu 40 ?_;refine wk 41 ?_;refine wk 42 ?_;refine wu 43 ?_;refine wu 44 ?_;refine wu 45 ?_;refine wk 46 ?_;refine wk 47 ?_;refine wpAnyH_done κ ?_ _;clear a;go_wp2_with fail
         go_ret;exact⟨by rw[c.out,y,H,M,P];rfl,g.out _ (Below.refl _ _).drew⟩
       | true =>
         refine wk 22 ?_;refine wk 23 ?_;refine wk 24 ?_;refine wk 25 ?_;refine wk 26 ?_;refine wk 27 ?_;cases b5 with
         | false =>
           refine we 28 fun K d=>?_;go_simp;refine(HR.out _).mono ?_;rintro e S ⟨rfl,rfl⟩;refine d.out _ _ (o.out _ (Below.refl _ _).drew) (fun a=>?_);clear d K;try simp only[pU]
           refine wk 29 ?_;refine wk 30 ?_;refine wu 31 ?_;refine wu 32 ?_;refine wu 33 ?_;refine wu 34 ?_;refine wk 35 ?_;refine wk 36 ?_;refine wu 37 ?_;refine wu 38 ?_;refine wu 39 ?_;refine wu 40 ?_;refine wk 41 ?_;refine wk 42 ?_;refine wu 43 ?_;refine wu 44 ?_;refine wu 45 ?_;refine wk 46 ?_;refine wk 47 ?_;refine wpAnyH_done κ ?_ _;clear a;go_wp2_with fail
           go_ret;exact⟨by rw[c.out,y,H,M,P];rfl,g.out _ (Below.refl _ _).drew⟩
         | true =>
           refine we 28 fun K d=>?_;go_simp;refine(HR.out _).mono ?_;rintro e S ⟨rfl,rfl⟩;refine d.out _ _ (o.out _ (Below.refl _ _).drew) (fun a=>?_);clear d K;try simp only[pU]
           refine wk 29 ?_;refine wk 30 ?_;refine wk 31 ?_;refine wk 32 ?_;refine wk 33 ?_;cases b6 with
           | false =>
             refine we 34 fun K d=>?_;go_simp;refine(HC.out _).mono ?_;rintro e S ⟨rfl,rfl⟩;refine d.out _ _ (o.out _ (Below.refl _ _).drew) (fun a=>?_);clear d K;try simp only[pU]
             refine wk 35 ?_;refine wk 36 ?_;refine wu 37 ?_;refine wu 38 ?_;refine wu 39 ?_;refine wu 40 ?_;refine wk 41 ?_;refine wk 42 ?_;refine wu 43 ?_;refine wu 44 ?_;refine wu 45 ?_;refine wk 46 ?_;refine wk 47 ?_;refine wpAnyH_done κ ?_ _;clear a;go_wp2_with fail
             go_ret;exact⟨by rw[c.out,y,H,M,P];rfl,g.out _ (Below.refl _ _).drew⟩
           | true =>
             refine we 34 fun K d=>?_;go_simp;refine(HC.out _).mono ?_;rintro e S ⟨rfl,rfl⟩;refine d.out _ _ (o.out _ (Below.refl _ _).drew) (fun a=>?_);clear d K;try simp only[pU]
             refine wk 35 ?_;refine wk 36 ?_;refine wk 37 ?_;refine wk 38 ?_;refine wk 39 ?_;cases b7 with
             | false =>
               refine we 40 fun K d=>?_;go_simp;refine(T.out _ (Below.refl _ _).drew).mono ?_;rintro e S ⟨rfl,q⟩;have k:=ah q;clear q;refine d.out _ _ (o.out _ k.out) (fun a=>?_);clear d K;try simp only[pU]
               refine wk 41 ?_;refine wk 42 ?_;refine wu 43 ?_;refine wu 44 ?_;refine wu 45 ?_;refine wk 46 ?_;refine wk 47 ?_;refine wpAnyH_done κ ?_ _;clear a;go_wp2_with fail
               go_ret;exact⟨by rw[c.out,y,H,M,P];rfl,g.out _ k.out⟩
             | true =>
               refine we 40 fun K d=>?_;go_simp;refine(T.out _ (Below.refl _ _).drew).mono ?_;rintro e S ⟨rfl,q⟩;have k:=ah q;clear q;refine d.out _ _ (o.out _ k.out) (fun a=>?_);clear d K;try simp only[pU]
               refine wk 41 ?_;refine wk 42 ?_;refine wk 43 ?_;refine wk 44 ?_;cases b8 with
               | false =>
                 refine we 45 fun K d=>?_;go_simp;refine(W.out _ k.out).mono ?_;rintro e w3 ⟨rfl,p⟩;have r:=ah p;clear p;refine d.out _ _ (o.out _ r.out) (fun a=>?_);clear d K;try simp only[pU]
                 refine wk 46 ?_;refine wk 47 ?_;refine wpAnyH_done κ ?_ _;clear a;go_wp2_with fail
                 go_ret;exact⟨by rw[c.out,y,H,M,P];rfl,g.out _ r.out⟩
               | true =>
                 refine we 45 fun K d=>?_;go_simp;refine(W.out _ k.out).mono ?_;rintro e w3 ⟨rfl,p⟩;have r:=ah p;clear p;refine d.out _ _ (o.out _ r.out) (fun a=>?_);clear d K;try simp only[pU]
                 refine wk 46 ?_;refine wk 47 ?_;refine wpAnyH_done κ ?_ _;clear a;go_wp2_with fail
                 go_ret;exact⟨by rw[c.out,y,H,M,P];rfl,g.out _ r.out⟩
variable {w w' wb:World}{b X:Nat}{S':PS}{o o1 o':Pl}{f:Codec.Frame}{R:Nat->Prop}{base:Nat}
def wG{n j:Nat}{e:TypeId}{v:Value}{i:List Value}(l:∀x,base<=x->R x)(h:w.ownsRow base e j v n i):eB w R e j v n i:=by
 refine⟨⟨h.1,?_⟩,fun g k=>l g (h.lt g k).1⟩;rcases h.2 with c|⟨g,a,d,c, -,m⟩
 ·exact .inl c
 ·exact .inr ⟨g,a,d,c,oI _,m⟩
def mC:∀{l:List Codec.Msg}{vs:List Value}{i:Nat}{m:Codec.Msg}{v:Value},l[i]?=some m->vs[i]?=some v->(aI l vs)[i * 4]?=some (J m.a)/\(aI l vs)[i * 4+1]?=some (J m.seq)/\(aI l vs)[i * 4+2]?=some v/\(aI l vs)[i * 4+3]?=some (.string m.b)
 |x::L,u::vs,0,a,v,d,c=>by cases d;cases c;exact⟨rfl,rfl,rfl,rfl⟩
 | x :: L, u :: vs, i + 1, a, v, d, c => by
   have:=mC (i:=i) d c;simp only[aI];rw[show (i+1) * 4=i * 4+4 by omega];exact this
 |[],_,_,_,_,d,_=>by cases d
 |_::_,[],_,_,_,_,c=>by cases c
def dn.r{s y n:Value}{a:List Value}(k:∀x,base<=x->R x)(h:dn w base f s y n a):ud w R f s y n:=by
 refine⟨wG k h.row,wG k h.cut,?_⟩;obtain⟨C,p,A⟩:=h.msgs;rcases p.2 with ⟨e,v⟩|⟨g,q,I,e,H,v⟩
 ·exact .inl ⟨⟨_,_,e⟩,List.length_eq_zero_iff.1 v⟩
 ·have c:n.ownBlock=some g:=by rw[e];rfl
  refine .inr ⟨g,q,e,(p.lt g c).2,k g H,fun j m l=>?_⟩;have r:j<a.length:=by rw[C];exact(ym.1 l).1
  have t:=yh r;obtain⟨D,z,E,G⟩:=mC l t;have d:=fun i u B=>p.cells c i u B;simp only[lu] at d;exact⟨a[j],d _ _ D,d _ _ z,d _ _ E,d _ _ G,wG k (A j m _ l t)⟩
def xY{f:Codec.Frame}(h:Codec.dg f=true):(f.c=1\/f.c=2\/f.c=3\/f.c=4\/f.c=5\/f.c=6\/f.c=7)/\Md.bj f.b/\(∀m∈f.d,0<=m.a)/\f.d.length<=1000:=by
 simp only[Codec.dg,Codec.dk,Codec.bS,Codec.aA,Codec.cd,Codec.aK,yB,Codec.de,y5,decide_eq_true_eq] at h;obtain⟨⟨⟨⟨⟨⟨⟨e,i⟩, -⟩,g⟩, -⟩, -⟩, -⟩,j,a⟩:=h;refine⟨ω,⟨ω,ω⟩,fun m c=>?_,ω⟩;obtain⟨⟨⟨d, -⟩, -⟩, -⟩:=a m c;omega
def vp{S:PS}(h:S.MC=0):S.out=false:=by
 unfold PS.MC at h;cases a:S.f <;> cases c:S.out <;> simp[a,c] at h ⊢
def rI(p:PP w F b S o)(wf:Wf S)(s:List UInt8)(hl:s.length<=140737488351232)(hs:S.e.length<=800000):Do 74 #[pT b 0,.string ⟨s.toArray⟩] (.tuple #[]) w F b o (S.Mn s):=by
 have HA:=ah (oD p);have HW:Hid (S.Mn s=if S.MC=0 && Codec.bM s && Md.na (Codec.bO s).1 S.c S.n then S.MW (Codec.bO s).1 else S):=rfl;have P:=ah p;have WF:Hid (Wf S):=wf;have a2:=ah hs;clear p wf hs;generalize S.Mn s=Z at HW ⊢;by_cases W:S.MC=0
 ·rw[W] at HA;have HO:=ah (vp W);cases hf:Codec.bM s with
  | false =>
    have HD:=ah (BS s w hl hf);have HZ:Hid (Z=S):=by rw[Hid,HW.out,hf];simp
    clear HW W hf;go_enter Tryz.func74,Tryz.ntmps74
    go_wp2_with fail
    refine HA.out.mono ?_;rintro e w2 ⟨rfl,rfl⟩;go_wp2_with fail
    refine HD.out.mono ?_;rintro e c ⟨rfl,l⟩;have k:=ah l;clear l HA HD;go_wp2_with fail
    have j:Hid (Below w2 w2 (c.alloc (.cells #[J 0,J 0,J 0,J 0,J 0,J 0,J 0,sN,sN,sN] 165))):=k.out.trans ((Below.refl _ _).alloc k.out.size _);generalize c.alloc _=w4 at j ⊢;refine wp_region_held_drew (S:=fun _=>True) rfl trivial (fun g=>?_)
    (iterate 15 refine ψ ?_)
    refine wpAnyH_done κ ?_ _;go_wp2_with fail
    (try simp only[Exit.inBlock,Exit.then])
    refine bodyPost_ret (results_none rfl _ _ _) rfl ?_;exact⟨rfl,o,by rw[HZ.out];exact P.out.d j.out.drew⟩
  | true =>
    obtain⟨m,a0⟩:Codec.dg (Codec.bO s).1=true/\Codec.im (Codec.bO s).1=s:=by
     unfold Codec.bM at hf;simpa using hf
    have HD:Hid (Calls prog 115 _ _ _):=xV s (Codec.bO s).1 (Codec.bO s).2 w hl rfl m a0;have v:Hid (Z=if Md.na (Codec.bO s).1 S.c S.n then S.MW (Codec.bO s).1 else S):=by rw[Hid,HW.out,hf,W];simp
    have t:=xY m;have O:Hid (∀a Q T U z,Below w w a->dn a w.heap.size (Codec.bO s).1 Q T U z->∀d,Below a a d->ud d (o.R F b) (Codec.bO s).1 Q T U/\PP d F b S o):=fun a Q T U z G B d Y=>
     ⟨(B.r fun x u=>P.out.g u).a (gI Y),(P.out.c G).c Y⟩
    have N:Hid (Md.na (Codec.bO s).1 S.c S.n=true->FrW S.n (Codec.bO s).1):=Md.LB m;clear HW W hf m a0;generalize (Codec.bO s).1=f at HD v t O N;have i:Hid (∀a Q T U,ud a (o.R F b) f Q T U->Calls prog 116 #[jq f Q T U,J S.c,J S.n] a fun e d=>e=.returned (.bool (Md.na f S.c S.n))/\Below a a d):=fun a Q T U a4=>F9 f S.c S.n WF.out.c t.1 t.2.1 t.2.2.1 t.2.2.2 a4;have a1:Hid (∀a,Below w w a->a.cell? (aT b 0)=some (J S.c)/\a.cell? (aT b 1)=some (J S.n)):=fun a hw=>⟨(P.out.c hw).a.a 0 _ rfl,(P.out.c hw).a.a 1 _ rfl⟩;clear t;go_enter Tryz.func74,Tryz.ntmps74
    go_wp2_with fail
    refine HA.out.mono ?_;rintro e w2 ⟨rfl,rfl⟩;go_wp2_with fail
    refine HD.out.mono ?_;rintro e c ⟨Q,T,U,z,rfl,B,l⟩;obtain⟨q,p3⟩:=O.out c Q T U z l B c (Below.refl _ _);obtain⟨ro,rn,rk,rfl⟩:=q.row.a;obtain⟨co,cn,ck,rfl⟩:=q.cut.a;obtain⟨mo,mn,mk,rfl⟩:=q.msgs.a;have HG:=ah (O.out c _ _ _ z l B);have k:=ah l;clear l B q p3 O HA HD;obtain⟨H,I,M,C,E,L,D,fr,fc,fg⟩:=f;unfold jq at i;simp only at i ⊢;go_wp2_with fail
    have HX:=af.d c c.heap.size rfl 165 #[J H,J I,J M,J C,J E,J L,J D,.slice ro rn rk,.slice co cn ck,.slice mo mn mk];have j:Hid (Below c c (c.alloc (.cells #[J H,J I,J M,J C,J E,J L,J D,.slice ro rn rk,.slice co cn ck,.slice mo mn mk] 165))):=(Below.refl _ _).alloc (yb _) _;generalize c.alloc (.cells #[J H,J I,J M,J C,J E,J L,J D,.slice ro rn rk,.slice co cn ck,.slice mo mn mk] 165)=w4 at HX j ⊢;have HS:Hid (∀a,Below w4 w4 a->(a.cell? (aT c 0)=some (J H)/\a.cell? (aT c 1)=some (J I)/\a.cell? (aT c 2)=some (J M)/\a.cell? (aT c 3)=some (J C)/\a.cell? (aT c 4)=some (J E)/\a.cell? (aT c 5)=some (J L)/\a.cell? (aT c 6)=some (J D)/\a.cell? (aT c 7)=some (.slice ro rn rk)/\a.cell? (aT c 8)=some (.slice co cn ck)/\a.cell? (aT c 9)=some (.slice mo mn mk)/\a.cell? (aT b 0)=some (J S.c)/\a.cell? (aT b 1)=some (J S.n))/\Below c c a):=fun a hw=>by
     have u:=HX.c hw HX.f;have G:=j.out.trans (hw.mono j.out.size);have hc:=a1.out a (k.out.trans (G.mono k.out.size));exact⟨⟨u.a 0 _ rfl,u.a 1 _ rfl,u.a 2 _ rfl,u.a 3 _ rfl,u.a 4 _ rfl,u.a 5 _ rfl,u.a 6 _ rfl,u.a 7 _ rfl,u.a 8 _ rfl,u.a 9 _ rfl,hc.1,hc.2⟩,G⟩
    have y:Hid (∀a,Below c c a->Below w2 w2 a):=fun a G=>k.out.trans (G.mono k.out.size);have HT:Hid (Calls prog 116 #[.agg #[J H,J I,J M,J C,J E,J L,J D,.slice ro rn rk,.slice co cn ck,.slice mo mn mk],J S.c,J S.n] w4.drew fun e d=>e=.returned (.bool (Md.na ⟨H,I,M,C,E,L,D,fr,fc,fg⟩ S.c S.n))/\Below w4 w4 d):=by
     refine(i.out w4.drew _ _ _ (HG.out _ j.out.drew).1).mono ?_;rintro e d ⟨rfl,h⟩;exact⟨rfl,(Below.refl _ _).drew.trans (h.mono (yb _))⟩
    clear HX a1 i k j;refine wp_region_held_drew (S:=fun a=>a.cell? (aT c 0)=some (J H)/\a.cell? (aT c 1)=some (J I)/\a.cell? (aT c 2)=some (J M)/\a.cell? (aT c 3)=some (J C)/\a.cell? (aT c 4)=some (J E)/\a.cell? (aT c 5)=some (J L)/\a.cell? (aT c 6)=some (J D)/\a.cell? (aT c 7)=some (.slice ro rn rk)/\a.cell? (aT c 8)=some (.slice co cn ck)/\a.cell? (aT c 9)=some (.slice mo mn mk)/\a.cell? (aT b 0)=some (J S.c)/\a.cell? (aT b 1)=some (J S.n)) rfl (HS.out _ (Below.refl _ _).drew).1 (fun g=>?_)
    (iterate 12 refine ψ ?_)
    refine we 12 fun K hK=>?_;go_simp;refine HT.out.mono ?_;rintro e w5 ⟨rfl,a3⟩;have V:=ah a3;clear a3 HT;refine hK.out _ _ (HS.out _ V.out).1 (fun g=>?_);clear hK K;try simp only[pU]
    cases A:Md.na ⟨H,I,M,C,E,L,D,fr,fc,fg⟩ S.c S.n with
    | false =>
      have HZ:Hid (Z=S):=by rw[Hid,v.out,A];rfl
      clear v N A
      (iterate 2 refine ψ ?_)
      refine wpAnyH_done κ ?_ _;clear g;go_wp2_with fail
      (try simp only[Exit.inBlock,Exit.then])
      refine bodyPost_ret (results_none rfl _ _ _) rfl ?_;exact⟨rfl,o,by rw[HZ.out];exact P.out.d (y.out _ (HS.out _ V.out).2)⟩
    | true =>
      have HZ:Hid (Z=S.MW ⟨H,I,M,C,E,L,D,fr,fc,fg⟩):=by rw[Hid,v.out,A];rfl
      have HH:Hid (Calls prog 117 #[pT b 0,.agg #[J H,J I,J M,J C,J E,J L,J D,.slice ro rn rk,.slice co cn ck,.slice mo mn mk]] w5 fun e d=>e=.returned (.tuple #[])/\∃o',To w2 F b o d Z o'):=by
       have G:=(HS.out _ V.out).2;rw[HZ.out];exact(P.out.d (y.out _ G)).g (B8 (HG.out _ G).2 WF.out HO.out (N.out A) (HG.out _ G).1 a2.out)
      clear v N A HZ P WF a2 HO HG;refine wk 13 ?_;refine wk 14 ?_;refine wpAnyH_done κ ?_ _;obtain⟨d0,d1,d2,d3,d4,d5,d6,d7,d8,d9, -, -⟩:=(HS.out _ V.out).1;clear g HS y;go_wp2_with fail
      refine HH.out.mono ?_;rintro e w6 ⟨rfl,h6⟩;have H6:=ah h6;clear h6 HH d0 d1 d2 d3 d4 d5 d6 d7 d8 d9;go_wp2_with fail
      go_end0
      exact⟨rfl,H6.out⟩
 ·have HZ:Hid (Z=S):=by rw[Hid,HW.out];simp[W]
  have a5:=W;clear HW W;go_enter Tryz.func74,Tryz.ntmps74
  go_wp2_with fail
  refine HA.out.mono ?_;rintro e w2 ⟨rfl,rfl⟩;go_wp2_with fail
  (try simp only[Exit.inBlock,Exit.then])
  refine bodyPost_ret (results_none rfl _ _ _) rfl ?_;exact⟨rfl,o,by rw[HZ.out];exact To.f P.out⟩
end
section
open Go.RowKit
open Md (PS Vote Bal Lft Wf MsgW Sends FrW tickF)
variable {w w' wb:World}{F:Nat->Prop}{b X:Nat}{S S':PS}{o o1 o':Pl}{f:Codec.Frame}{l:List (List UInt8)}
def xd(U:PS)(L:List Nat)(k:Nat):Sends U (aG tickF L U k) (k * (1+U.o.length)):=(Md.gW U _).c (Nat.mul_le_mul (by rw[xk];omega) (yb _))
def GF{a:Int}{n q:Nat}(h:q∈Md.iX a n):q<n:=by
 have:=(yM.1 h).1;simpa using this
def AB(p:PP w F b S o)(N:Wf S)(hT:CH w)(hs:S.e.length<=600000):Do 71 #[pT b 0] (J S.MC) w F b o S.tick:=by
 have HA:=ah (oD p);by_cases Q:S.MC=0
 ·have I:Hid (S.tick=S.Me.L8.foldl tickF S.Me):=by rw[Hid,Md.oB,if_pos Q]
  have E:=ah (qF p N hT (vp Q) ω);have j:=ah N.l;have G:Hid (S.Me.e.length<=600018):=by have:=Md.ft N.c;unfold Md.cS at this;unfold Hid;omega
  rw[Q] at HA ⊢;clear p N hT hs Q;generalize S.Me=U at I E j G;generalize S.tick=Z at I ⊢;go_enter Tryz.func71,Tryz.ntmps71
  go_wp2_with fail
  refine HA.out.mono ?_;rintro e w2 ⟨rfl,rfl⟩;go_wp2_with fail
  refine E.out.mono ?_;rintro e w1 ⟨rfl,o1,h1⟩;have O:=ah h1;clear h1 HA E;have V:=ah (nm O.out.c j.out);have Y:U.L8.length<=6:=yr (gG _ U.n) j.out.c;go_wp2_with fail
  refine V.out.mono ?_;rintro e W ⟨v,rfl,x,M⟩;obtain⟨ao,c,rfl, -⟩:=fN x fun _ _ _=>rfl;have H3:=ah (O.out.a (O.out.c.d M));have HEND:Hid (∀wr d,To W F b o1 wr (aG tickF U.L8 U U.L8.length) d->∃d,To w2 F b o wr Z d):=fun wr d h=>⟨d,by rw[I.out,<-iH];exact H3.out.a h⟩;have H0:=ah (To.f H3.out.c);have a:Hid (∀(k:Nat) wr d,k<U.L8.length->To W F b o1 wr (aG tickF U.L8 U k) d->∃q g:Nat,ao=some ⟨g,0,none⟩/\wr.cell? (aT g k)=some (J q)/\Calls prog 111 #[pT b 0,J q] wr fun e K=>e=.returned (.tuple #[])/\K.cell? (aT b 5)=some (.bool U.h)/\(U.h=true->∃C,To W F b o1 K (aG tickF U.L8 U (k+1)) C)/\(U.h=false->Calls prog 112 #[pT b 0,J q] K fun e w5=>e=.returned (.tuple #[])/\∃C,To W F b o1 w5 (aG tickF U.L8 U (k+1)) C)):=fun k wr d hk h=>by
   have R:=yh hk;obtain⟨a8,c',a1,H⟩:=fN (w':=wr) x fun g hg A=>h.e.block g A fun e=>by have:=O.out.c.h e;omega
   injection a1 with e1 _ _;subst e1;obtain⟨g,hg,hc⟩:=H k _ R;have a4:=GF (AF hk);have t:=xd U U.L8 k;have a6:=H3.out.c.u j.out;have T:k * (1+U.o.length)<=6 * 127:=Nat.mul_le_mul ω ω;have D:(aG tickF U.L8 U k).h=U.h:=by rw[t.e]
   have a0:(aG tickF U.L8 U k).n=U.n:=by rw[t.e]
   have b0:=t.b;have a9:=G.out;refine⟨_,g,hg,hc,(BY h.c (t.d j.out) ω _).mono ?_⟩;rintro e K ⟨rfl,o4,h4⟩;have z:Sends (aG tickF U.L8 U k) ((aG tickF U.L8 U k).gossip U.L8[k]) 1:=Md.ak _ _;have a3:((aG tickF U.L8 U k).gossip U.L8[k]).h=U.h:=by rw[z.e];exact D
   have u:aG tickF U.L8 U (k+1)=tickF (aG tickF U.L8 U k) U.L8[k]:=jb R;refine⟨rfl,?_,fun hb=>⟨o4,?_⟩,fun hb=>?_⟩
   ·have:=h4.c.a.a 5 _ rfl;simp only[yf,yd,ye,a3] at this;exact this
   ·rw[u,tickF,D,hb];exact h.a h4
   ·rw[u,tickF,D,hb];exact(h.a h4).g (qj h4.c (z.d (t.d j.out)) (by have:=z.b;omega) _ (by rw[show ((aG tickF U.L8 U k).gossip U.L8[k]).n=U.n by rw[z.e];exact a0];exact a4))
  clear x M V O H3 I j G;generalize U.L8=L at Y HEND H0 a;generalize a2:U.h=bl at a;clear a2;go_wp2_with fail
  go_loopw [16] (fun i wr=>∃k:Nat,k<=L.length/\i=J k/\∃d,To W F b o1 wr (aG tickF L U k) d) (fun i _=>L.length - (intOf i).toNat)
  case atStart=>exact⟨0,ω,rfl,_,H0.out⟩
  case round=>
   obtain⟨k,hk,rfl,d,ht⟩:=hrel;by_cases A:k<L.length
   ·have a5:k<(L.length:Int):=ω;have b1:(0:Int)<=(k:Int):=ω;obtain⟨q,g,rfl,cg,s⟩:=a.out k wr d A ht;have HC:Hid (Calls prog 111 _ _ _):=s;clear s ht;go_wp2_with fail
    refine HC.out.mono ?_;rintro e K ⟨rfl,c5,y,B⟩;cases bl with
    | true =>
      have HY:=ah (y rfl);clear y B HC a;go_wp2_with fail
      exact⟨⟨k+1,ω,by go_num,HY.out⟩,by simp[intOf];omega⟩
    | false =>
      have HN:Hid (Calls prog 112 _ _ _):=B rfl;clear y B HC a;go_wp2_with fail
      refine HN.out.mono ?_;rintro e w5 ⟨rfl,h5⟩;have H5:=ah h5;clear h5 HN;go_wp2_with fail
      exact⟨⟨k+1,ω,by go_num,H5.out⟩,by simp[intOf];omega⟩
   ·have a7:¬(k:Int)<(L.length:Int):=ω;have T:k=L.length:=ω;have HT:Hid (∃d,To w2 F b o wr Z d):=HEND.out wr d (by rw[<-T];exact ht);clear ht a HEND;go_wp2_with fail
    go_ret;exact⟨rfl,HT.out⟩
 ·have I:Hid (S.tick=S):=by rw[Hid,Md.oB,if_neg Q]
  have P:=ah p;rw[I.out];clear p N hT hs;go_enter Tryz.func71,Tryz.ntmps71
  go_wp2_with fail
  refine HA.out.mono ?_;rintro e w2 ⟨rfl,rfl⟩;go_wp2_with fail
  go_ret;exact⟨rfl,o,To.f P.out⟩
def To.i{g:PS}(h:To w F b o w' g o')(p:PP w F b S o)(a:CH w)(d:¬F 1):CH w':=fun i c=>
 (World.cell?_of_block (h.e.block 1 (World.block_lt_of_cell? w _ (a i c)) fun e=>d (p.mf e))).trans (a i c)
def Wf.Ac(l:List (List UInt8))(c:Wf S):Wf (l.foldl PS.Mn S):=Wf.q (fun _ s a=>Wf.o a s) l S c
def tD(S:PS)(l:List (List UInt8))(k:Nat):PS:=(l.take k).foldl PS.Mn S
def BH{k:Nat}{s:List UInt8}(h:l[k]?=some s):tD S l (k+1)=(tD S l k).Mn s:=by
 obtain⟨a,rfl⟩:=ym.1 h;unfold tD;rw[<-List.take_append_getElem a,List.foldl_append];rfl
def GM(p:PP w F b S o)(y:Wf S)(P:CH w)(M:¬F 1)(Z:S.e.length<=100000)(a2:l.length<=40000)(t:∀s∈l,s.length<=140737488351232){v:Value}(H:eB w (o.R F b) 9 1 v l.length (l.map fun s=>Value.string ⟨s.toArray⟩)) :
 Do 101 #[pT b 0,v] (.tuple #[]) w F b o (S.Nc l):=by
 obtain⟨N,Y,rfl⟩:=bG H.d;have U:=ah (To.f p);have HSTEP:Hid (∀(k:Nat) wr j,k<l.length->To w F b o wr (tD S l k) j->∃(s:List UInt8) (g:Nat),N=some ⟨g,0,none⟩/\wr.cell? (aT g k)=some (.string ⟨s.toArray⟩)/\Calls _ 74 #[pT b 0,.string ⟨s.toArray⟩] wr fun e r=>e=.returned _/\∃n,To w F b o r (tD S l (k+1)) n):=fun k wr j G h=>by
  have A:=yh G;have u:=H.f h.d;rcases u.d.2 with ⟨-,z⟩|⟨g,W,a1,z, -⟩
  ·omega
  ·have I:(Value.slice N l.length Y).ownBlock=some g:=by rw[z];rfl
   have Q:=u.d.cells I k (.string ⟨l[k].toArray⟩) (by simp[A]);rw[lu] at Q;injection z with z;refine⟨l[k],g,z,Q,?_⟩;have K:=Md.fH (l.take k) S y.c;unfold Md.cS at K;rw[BH A];exact h.g (rI h.c (Wf.Ac (l.take k) y) l[k] (t _ (AF G)) (by
    show ((l.take k).foldl PS.Mn S).e.length<=800000;have:(l.take k).length<=40000:=by rw[xk];omega
    omega))
 have m:Hid (∀wr j,To w F b o wr (tD S l l.length) j->Calls prog 71 #[pT b 0] wr fun e r=>(∃x,e=.returned (J x))/\∃n,To w F b o r (S.Nc l) n):=fun wr j h=>by
  have e:tD S l l.length=l.foldl PS.Mn S:=by unfold tD;rw[AE]
  rw[e] at h;have K:=Md.fH l S y.c;unfold Md.cS at K;refine(h.g (AB h.c (Wf.Ac l y) (h.i p P M) ω)).mono ?_;rintro e r ⟨rfl,q⟩;exact⟨⟨_,rfl⟩,q⟩
 clear p y P M Z t H;go_enter Tryz.func101,Tryz.ntmps101
 go_wp2_with fail
 go_loopw [8] (fun i wr=>∃k:Nat,k<=l.length/\i=J k/\∃j,To w F b o wr (tD S l k) j) (fun i _=>l.length - (intOf i).toNat)
 case atStart=>exact⟨0,ω,rfl,_,U.out⟩
 case round=>
  obtain⟨k,G,rfl,j,B⟩:=hrel;by_cases D:k<l.length
  ·have O:k<l.length:=ω;have a0:0<=k:=ω;obtain⟨s,g,rfl,cg,d⟩:=HSTEP.out k wr j D B;have L:=ah d;clear d B;go_wp2_with fail
   refine L.out.mono ?_;rintro e r ⟨rfl,q⟩;have E:=ah q;clear q L HSTEP;go_wp2_with fail
   exact⟨⟨k+1,ω,by go_num,E.out⟩,by simp[intOf];omega⟩
  ·have V:¬k<l.length:=ω;have C:k=l.length:=ω;have T:=ah (m.out wr j (by rw[<-C];exact B));clear B HSTEP m;go_wp2_with fail
   refine T.out.mono ?_;rintro e r ⟨⟨x,rfl⟩,q⟩;have E:=ah q;clear q T;go_wp2_with fail
   go_end0
   exact⟨rfl,E.out⟩
open Go.ChangeMaps (setBlock)
def mF(num:Nat)(ks:List (Int × Int)):Nat:=(ks.filter fun k=>k.1 == (num:Int)).length
def EW(a:Nat)(c:List (Int × Int)):mF a c<=c.length:=G3 _ _
def oe(p:PP w F b S o)(wf:Wf S):Calls prog 182 #[pT b 0] w fun e w'=>e=.returned (J ((S.o.filter fun m=>m.a == (S.c:Int)).length:Nat))/\Below w w w':=by
 have a1:=p.a.a 15 _ rfl;simp only[yf,yd,ye] at a1;have a5:Hid (∀w',Below w w w'->w'.cell? (aT b 0)=some (J S.c)):=fun w' hw=>(p.c hw).a.a 0 _ rfl;have C:=p.e.o.b;have d:=p.e.o.born;have a7:=ah d;have N:Hid (∀e∈o.n.toList,∃s q:Int,∃v,oh e.key=(s,q)/\e.key=.agg #[J s,J q]/\e.val=v):=fun e M=>by
  obtain⟨i,hi,rfl⟩:=y4 M;obtain⟨x, -,hk, -⟩:=p.e.o.at (yh hi);exact⟨_,_,_,by rw[hk];rfl,hk,rfl⟩
 have z:=p.e.map;have b0:o.n.toList.length<=126:=by
  have h1:=p.u wf;have h2:=p.e.o.a;rw[<-p.ms,yL] at h1;rw[AG];omega
 have A:Hid (∀h:List MapEntry,h.Perm o.n.toList->mF S.c (aH h)=(S.o.filter fun m=>m.a == (S.c:Int)).length):=fun h hv=>by
  have h1:(aH h).Perm (aH o.n.toList):=hv.map _;rw[vU p.e.o] at h1;have h2:=(h1.filter fun k=>k.1 == (S.c:Int)).length_eq;unfold mF;rw[h2,<-p.ms,List.filter_map,List.filter_map,yL,yL];rfl
 clear p wf;generalize (S.o.filter fun m=>m.a == (S.c:Int)).length=Z at A ⊢;generalize o.n=V at *;generalize o.m=t at *;generalize o.j=D at *;go_enter Tryz.func182,Tryz.ntmps182
 go_wp2_with (at_range;refine eO _ rfl _ 156 186 179 rfl Tryz.underlying156 rfl z C d ?_;intro W)
 go_frame
 go_loopw [3] (fun c wr=>∃k:Nat,c=J k/\k<=126/\∃a h B,cm wr t _ V D a/\Below _ w wr/\gY V a h B/\Hid (k=mF S.c (aH h))) (fun _ wr=>eN wr t w.heap.size)
 case atStart=>exact⟨0,rfl,ω,#[],[],_,W,(Below.refl _ _).alloc (yb _) _,⟨List.Perm.refl _,fun e _=>ς,fun e M=>by cases M⟩,rfl⟩
 case round=>
  obtain⟨k,rfl,E,a,h,B,hR,hB,hV,P⟩:=hrel;have a0:=hR.b;have HB:=ah hB;have HV:=ah hV;clear W z C d hB hV;go_wp2_with (at_next;refine fB _ rfl _ rfl t w.heap.size rfl hR ?_ ?_)
  ·intro h0;have HK:Hid (k=Z):=by
    rw[Hid,P.out];exact A.out h (HV.out.d (by simpa using h0))
   clear h0;go_wp2_with fail
   go_ret;exact⟨by rw[HK.out];rfl,HB.out⟩
  ·intro e L M T Y a2 a4 R;have r:e∈V.toList:=by simpa using M
   have j:a.contains e.born=false:=by simpa using T
   clear M T;obtain⟨s,q,v,O,hk,hv⟩:=N.out e r;obtain⟨a8,G⟩:=HV.out.c a7.out r j;have Q:=ah G;have a3:(h++[e]).length<=126:=by
    have:=G.a.length_eq;rw[yC] at this;omega
   have u:Hid (mF S.c (aH (h++[e]))=k+if s=(S.c:Int) then 1 else 0):=by
    unfold Hid;rw[P.out];unfold mF aH;rw[y8,La,yC];congr 1;simp only[yN,Cx,O,List.filter_cons,List.filter_nil];by_cases g:s=(S.c:Int)
    ·simp[g]
    ·simp[g]
   have a6:Hid (mF S.c (aH (h++[e]))<=126):=yr (EW _ _) (by unfold aH;rw[yL];exact a3);clear G a3;rw[hk,hv] at R ⊢;go_wp2_with fail
   have I:Below w w L:=ia HB.out (yb _) a2;have y:Hid (Below w w (L.alloc (.cells #[J s,J q] 186))):=I.alloc I.size _;have H:Hid (cm (L.alloc (.cells #[J s,J q] 186)) t w.heap.size V D (a.push e.born)):=Y.c ((Below.refl _ _).alloc (yb _) _);have d0:=(af.d L wr.heap.size a4 186 #[J s,J q]).a 0 _ rfl;have c0:=a5.out _ y.out;have HM:Hid (eN (L.alloc (.cells #[J s,J q] 186)) t w.heap.size<eN wr t w.heap.size):=by
    rw[Hid,H.out.b,a0];exact iI r j
   simp only[yf,yd] at d0;clear Y a2 a4 R I hR a0 r j hk hv a1 N a5 O;generalize L.alloc (.cells #[J s,J q] 186)=w2 at y H d0 c0 HM ⊢;have HT:Hid (∀n,eN (w2.drewN n) t w.heap.size=eN w2 t w.heap.size):=fun n=>by
    have e:(w2.drewN n).heap=w2.heap:=ς;unfold eN;rw[e]
   have U:Hid (∀n,cm (w2.drewN n) t w.heap.size V D (a.push e.born)):=fun n=>H.out.c (below_drewN (Below.refl _ _) n);by_cases g:s=(S.c:Int)
   ·have l:Hid (k+1=mF S.c (aH (h++[e]))):=by rw[Hid,u.out,if_pos g]
    subst g;clear u;go_quiet (fail)
    go_wp2_with fail
    exact⟨⟨k+1,by go_num,by rw[l.out];exact a6.out,_,_,_,U.out _,below_drewN y.out _,Q.out,l.out⟩,by rw[HT.out];exact HM.out⟩
   ·have l:Hid (k=mF S.c (aH (h++[e]))):=by rw[Hid,u.out,if_neg g];rfl
    have a9:(s == (S.c:Int))=false:=by rw[beq_eq_false_iff_ne];exact g
    clear u;go_quiet (fail)
    go_wp2_with fail
    exact⟨⟨k,rfl,E,_,_,_,U.out _,below_drewN y.out _,Q.out,l.out⟩,by rw[HT.out];exact HM.out⟩
def qa(p:PP w F b S o)(A:Wf S)(t:ByteArray)(ht:t.size<=16):Calls prog 136 #[pT b 0,.string t] w fun e a=>e=.returned (J (S.Mf t))/\Below w w a:=by
 obtain⟨r,T, -,x⟩:=p.i A;have I:=ah (oD p);have H:Hid (∀a,Below w w a->Calls prog 119 #[pT b 0] a fun e l=>e=.returned (sT r S.n S.n)/\Below a a l/\l.heap=a.heap):=fun a k=>np (p.c k) T;have j:Hid (∀a,Below w w a->Calls prog 182 #[pT b 0] a fun e l=>e=.returned (J ((S.o.filter fun m=>m.a == (S.c:Int)).length:Nat))/\Below a a l):=fun a k=>oe (p.c k) A;have i:Hid (∀a,Below w w a->a.cell? (aT b 0)=some (J S.c)/\a.cell? (aT b 2)=some (J S.r)/\a.cell? (aT b 5)=some (.bool S.h)/\a.cell? (aT r S.c)=some (J (S.Ml.getD S.c 0))):=fun a k=>by
  have P:=(p.c k).a;exact⟨P.a 0 _ rfl,P.a 2 _ rfl,P.a 5 _ rfl,(x.c k x.f).a S.c _ (ie (by rw[A.g.1];exact A.num))⟩
 have O:0<=S.c:=ω;have B:S.c<S.n:=by have:=A.num;omega
 have D:Hid (S.Mf t=if S.MC≠0 then S.MC else if S.h then 8 else if 20<=S.Ml.getD S.c 0 then 9 else if S.r<=(S.o.filter fun m=>m.a == (S.c:Int)).length then 10 else 0):=by
  unfold Hid PS.Mf;rw[if_neg (show ¬16<t.size by omega)]
 have V:¬16<t.size:=ω;have Q:=(i.out w (Below.refl _ _)).2.2.1;clear p A T x;generalize S.Mf t=v at D ⊢;by_cases L:S.MC=0
 ·have d:Hid (v=if S.h then 8 else if 20<=S.Ml.getD S.c 0 then 9 else if S.r<=(S.o.filter fun m=>m.a == (S.c:Int)).length then 10 else 0):=by rw[Hid,D.out,if_neg (by simp[L])]
  rw[L] at I;clear D L;generalize S.Ml.getD S.c 0=z at i d;generalize (S.o.filter fun m=>m.a == (S.c:Int)).length=Z at j d;generalize S.r=W at i d;generalize S.c=N at i H j O B;generalize S.n=nn at H B;cases h:S.h with
  | true =>
    have u:Hid (v=8):=by rw[Hid,d.out,h];rfl
    rw[h] at Q;clear d i j H h;go_enter Tryz.func136,Tryz.ntmps136
    go_wp2_with fail
    refine I.out.mono ?_;rintro e U ⟨rfl,rfl⟩;go_wp2_with fail
    go_ret;exact⟨by rw[u.out];rfl,Below.refl _ _⟩
  | false =>
    have s:Hid (v=if 20<=z then 9 else if W<=Z then 10 else 0):=by rw[Hid,d.out,h];rfl
    rw[h] at Q i;clear d h;go_enter Tryz.func136,Tryz.ntmps136
    go_wp2_with fail
    refine I.out.mono ?_;rintro e U ⟨rfl,rfl⟩;go_wp2_with fail
    refine wp_region_held_drew (S:=fun a=>a.cell? (aT b 0)=some (J N)/\a.cell? (aT r N)=some (J z)) rfl (by have:=i.out _ (Below.refl _ _).drew;exact⟨this.1,this.2.2.2⟩) (fun c=>?_);refine wk 0 ?_;refine wk 2 ?_;refine wk 3 ?_;refine wk 4 ?_;refine wk 5 ?_;refine we 1 fun K E=>?_;go_simp;refine(H.out _ (Below.refl _ _).drew).mono ?_;rintro e w3 ⟨rfl,C, -⟩;have g:=ah ((Below.refl _ _).drew.trans (C.mono (yb _)));clear C;refine E.out _ _ (by have:=i.out _ g.out;exact⟨this.1,this.2.2.2⟩) (fun c=>?_);clear E K;try simp only[pU]
    (iterate 4 refine ψ ?_)
    refine wpAnyH_done κ ?_ _;clear c;by_cases R:20<=z
    ·have u:Hid (v=9):=by rw[Hid,s.out,if_pos R]
     clear s;go_wp2_with fail
     go_ret;exact⟨by rw[u.out];rfl,g.out⟩
    ·have q:Hid (v=if W<=Z then 10 else 0):=by rw[Hid,s.out,if_neg R]
     clear s;go_wp2_with fail
     refine wp_region_held_drew (S:=fun a=>a.cell? (aT b 2)=some (J W)) rfl (i.out _ g.out.drew).2.1 (fun c=>?_);refine wk 0 ?_;refine wk 2 ?_;refine wk 3 ?_;refine wk 4 ?_;refine wk 5 ?_;refine we 1 fun K E=>?_;go_simp;refine(j.out _ g.out.drew).mono ?_;rintro e Y ⟨rfl,G⟩;have y:=ah (g.out.trans ((Below.refl _ _).drew.trans (G.mono (yb _)) |>.mono g.out.size));clear G;refine E.out _ _ (i.out _ y.out).2.1 (fun c=>?_);clear E K;try simp only[pU]
     (iterate 2 refine ψ ?_)
     refine wpAnyH_done κ ?_ _;clear c;by_cases k:W<=Z
     ·have u:Hid (v=10):=by rw[Hid,q.out,if_pos k]
      have M:(W:Int)<=(Z:Int):=ω;clear q;go_wp2_with fail
      go_ret;exact⟨by rw[u.out];rfl,y.out⟩
     ·have u:Hid (v=0):=by rw[Hid,q.out,if_neg k]
      have M:¬(W:Int)<=(Z:Int):=ω;clear q;go_wp2_with fail
      go_ret;exact⟨by rw[u.out];rfl,y.out⟩
 ·have u:Hid (v=S.MC):=by rw[Hid,D.out,if_pos L]
  clear D i j H;go_enter Tryz.func136,Tryz.ntmps136
  go_wp2_with fail
  refine I.out.mono ?_;rintro e U ⟨rfl,rfl⟩;go_wp2_with fail
  go_ret;exact⟨by rw[u.out];rfl,Below.refl _ _⟩
open Go.Pm (Perm Loose frame_calls loose_live)
open Go.Cr (fam Tabs leafLaw progOk)
section
variable {w w':World}{F:Nat->Prop}{b:Nat}{h:Hd}{kn:List (List Int)}{ms:List Codec.Msg}{evs:List Ev}{snt:List bC}
end
open Go.Pm (SupO FixS)
variable {i:Nat}{snt:List bC}
section
structure vj where
 b:List (List Int)
 c:List Codec.Msg
 a:List Ev
def cZ(i n win:Nat):Hd:=⟨i,n,win,false,false,false,0,gD n,0,0,0,0,sN,.pointer none,sN⟩
structure GA (w:World) (gb pb n win lim:Nat) (bl:Nat->Nat) (Fp:Nat->Nat->Prop) (Fn:Nat->Prop) (st:Nat->vj) (pl:List bC) (nv:Value):Prop where
 d:cY w Fn gb (sT pb n n) lim pl nv
 f:af w pb 102 ((List.range n).map fun i=>Value.pointer (some ⟨bl i,0,none⟩)).toArray
 e:∀i,i<n->PX w (Fp i) (bl i) (cZ i n win) (st i).b (st i).c (st i).a []
 ok:∀i,i<n->Ok (cZ i n win) (st i).b (st i).c (st i).a/\∀m∈(st i).c,Codec.aK m=true
 dis:∀i j x,i<n->j<n->Fp i x->Fp j x->i=j
 c:∀i x,i<n->Fp i x->¬Fn x
 b:∀i,i<n->¬Fp i gb/\¬Fp i pb
 p:¬Fn gb/\¬Fn pb
 k:gb≠pb
 q:∀i x,i<n->Fp i x->x<w.heap.size
 g:∀x,Fn x->x<w.heap.size
 h:∀i,i<n->Cl w (Fp i)
 l:7<=gb/\7<=pb
 o:∀x,Fn x->7<=x
def L3(gb pb n:Nat)(Fp:Nat->Nat->Prop)(Fn:Nat->Prop):Nat->Prop:=fun x=>x=gb\/x=pb\/Fn x\/∃i,i<n/\Fp i x
def GX(w:World)(FG:Nat->Prop)(gb n win lim:Nat)(st:Nat->vj)(pl:List bC):Prop:=
 ∃pb bl Fp Fn nv,GA w gb pb n win lim bl Fp Fn st pl nv/\∀x,L3 gb pb n Fp Fn x->FG x
variable {w w':World}{gb pb n win lim:Nat}{bl:Nat->Nat}{Fp:Nat->Nat->Prop}{Fn:Nat->Prop}{st:Nat->vj}{pl:List bC}{nv:Value}
def vu(i n a:Nat):xH (cZ i n a):=fun b=>by simp[cZ]
end
variable {gb pb n win lim:Nat}{bl:Nat->Nat}{Fp:Nat->Nat->Prop}{Fn:Nat->Prop}{st:Nat->vj}{pl:List bC}{nv:Value}{FG:Nat->Prop}{pl':List bC}{nv':Value}
def mu(i:Nat)(f:Option Addr)(c:Nat)(h:w.cell? (aT gb 0)=some (.slice f n c))(g:i<n):Calls prog 64 #[pT gb 0,J i] w fun e d=>e=.returned (.bool true)/\d=w:=by
 have b:0<=i:=ω;have a:i<n:=ω;go_enter Tryz.func64,Tryz.ntmps64
 go_wp2_with fail
 go_ret;exact⟨rfl,rfl⟩
variable {w1 w2:World}{pl1:List bC}



