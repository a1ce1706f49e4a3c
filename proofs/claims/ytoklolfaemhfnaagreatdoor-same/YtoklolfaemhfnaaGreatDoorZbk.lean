import Derived.Orders
import Derived.Test.YtoklolfaemhfnaaGreatDoorZbh
import Derived.Test.YtoklolfaemhfnaaGreatDoorZbj
set_option maxRecDepth 100000
set_option maxHeartbeats 0
set_option linter.defProp false
open Go.Proofs.Tryz
namespace Go.Cr
section
open Go Go.Conc
variable {i j:Nat}{p:List Nat}{a:Act}
def fj(ops:Array Oper)(i:Nat):List Nat:=match ops[i]? with
 |some o=>(o.after.toList.filter (Region.binds .any)).map (·.on)
 |none=>[]
def Fv(ops:Array Oper):Nat->List Nat->List Nat
 |0,l=>l
 |f+1,l=>Fv ops f (l++l.flatMap (fj ops))
def dR(ops:Array Oper)(i:Nat):Option Nat:=(ops[i]?).bind (·.dst)
def iw(ops:Array Oper)(m sz:Nat):Bool:=
 decide (m<ops.size)&&((List.range m).all λi=>match dR ops i with|some d=>decide (d<sz)|none=>false)
 &&((List.range m).all λi=>(List.range m).all λj=>i==j|| !(dR ops i==dR ops j))
 &&((List.range ops.size).all λi=>(fj ops i).all λj=>decide (j<i))
 &&((List.range ops.size).all λi=>decide (i<m)||(List.range m).all λj=>(Fv ops 5 (fj ops i)).contains j)
section
variable {ops:Array Oper}{m sz:Nat}
def iw.e(h:iw ops m sz=true):m<ops.size:=by simp only[iw,yB,decide_eq_true_eq]at h;exact h.1.1.1.1
def iw.d(h:iw ops m sz=true)(b:i<m):∃d,dR ops i=some d/\d<sz:=by simp only[iw,yB,y5,zD]at h;have:=h.1.1.1.2 i b;rcases e:dR ops i with _|d;rw[e]at this;cases this;rw[e]at this;exact⟨d,rfl,by simpa using this⟩
def iw.f(h:iw ops m sz=true)(c:i<m)(d:j<m)(b:i≠j):dR ops i≠dR ops j:=by simp only[iw,yB,y5,zD]at h;have:=h.1.1.2 i c j d;simpa[b]using this
def iw.c(h:iw ops m sz=true)(b:i<ops.size)(c:j∈fj ops i):j<i:=by simp only[iw,yB,y5,zD]at h;have:=h.1.2 i b j c;simpa using this
def iw.last(h:iw ops m sz=true)(c:i<ops.size)(e:m<=i)(d:j<m):j∈Fv ops 5 (fj ops i):=by simp only[iw,yB,y5,zD]at h;have:=h.2 i c;rw[Bool.or_eq_true]at this;rcases this with b|b;simp at b;omega;rw[y5]at b;simpa using b j (zD.2 d)
def CS(e:∀i∈p,∀j∈fj ops i,j∈p):∀(f:Nat)(l:List Nat),(∀x∈l,x∈p)->∀x∈Fv ops f l,x∈p:=by
 intro f;induction f with
 |zero=>intro l h;exact h
 |succ f k=>
  intro l h;refine k _ λx c=>?_;rcases yz.1 c with b|b;exact h x b;obtain⟨y,d,g⟩:=Km.1 b;exact e y (h y d) x g
structure sj(a0:Act)(ops:Array Oper)(vals:Nat->Θ)(p:List Nat)(a:Act):Prop where
 e:∀j∈p,∀d,dR ops j=some d->a.tmps[d]?=some (vals j)
 c:∀t,(∀j∈p,dR ops j≠some t)->a.tmps[t]?=a0.tmps[t]?
 defers:a.defers=a0.defers
 size:a.tmps.size=a0.tmps.size
def AM(a0:Act)(ops:Array Oper)(vals:Nat->Θ):List Nat->Act:=List.foldl (λa i=>a.put (dR ops i) (vals i)) a0
variable {a0:Act}{vals:Nat->Θ}
def sj.nil:sj a0 ops vals [] a0:=⟨λ_ b=>(yU b).elim,λ_ _=>rfl,rfl,rfl⟩
def sj.put(f:iw ops m a0.tmps.size=true)(h:sj a0 ops vals p a)(w:∀j∈p,j<m)(u:i<m)(r:i∉p):sj a0 ops vals (p++[i]) (a.put (dR ops i) (vals i)):=by
 obtain⟨d,g,n⟩:=iw.d f u;rw[g];have e:(a.put (some d) (vals i)).tmps=a.tmps.setIfInBounds d (vals i):=rfl;refine⟨λj o k b=>?_,λt s=>?_,h.defers,by rw[e,Array.size_setIfInBounds];exact h.size⟩
 .rw[e];rcases yz.1 o with c|c
  .have q:d≠k:=λl=>by subst l;exact iw.f f u (w j c) (λv=>r (v▸c)) (g.trans b.symm)
   rw[yP q];exact h.e j c k b
  rw[yu]at c;subst c;obtain rfl:d=k:=Option.some.inj (g.symm.trans b);rw[yR (by rw[h.size];exact n)]
 rw[e,yP λl:d=t=>s i ς (by rw[g,l])];exact h.c t λj o=>s j (by simp[o])
def sj.fin(f:iw ops m a0.tmps.size=true):∀(q p:List Nat)(a:Act),sj a0 ops vals p a->(p++q).Nodup->(∀j∈p++q,j<m)->sj a0 ops vals (p++q) (q.foldl (λa i=>a.put (dR ops i) (vals i)) a):=by
 intro q;induction q with
 |nil=>intro p a h _ _;simpa using h
 |cons i q l=>
  intro p a h c b;have e:p++i::q=(p++[i])++q:=ς;rw[e]at c b⊢;exact l _ _ (h.put f (λj k=>b j (by simp[k])) (b i ς) λg=>(GZ.1 (GZ.1 c).1).2.2 i g i ς rfl) c b
def sj.f{q:List Nat}{d:Act}(h:sj a0 ops vals p a)(g:sj a0 ops vals q d)(c:∀x,x∈p↔x∈q):a=d:=by
 have:a.tmps=d.tmps:=by refine LN λt=>?_;by_cases f:∃j∈p,dR ops j=some t;obtain⟨j,b,k⟩:=f;rw[h.e j b t k,g.e j ((c j).1 b) t k];rw[h.c t λj b e=>f ⟨j,b,e⟩,g.c t λj b e=>f ⟨j,(c j).2 b,e⟩]
 cases a;cases d;simp only at this;subst this;have:=h.defers.trans g.defers.symm;simp only at this;rw[this]
end
def rf(m n:Nat):Array Bool:=(List.replicate m true++List.replicate (n-m) false).toArray
section
variable {P:Program}{main:Bool}{K:ϑ}{A:Ξ}{X:Event->Prop}{Stop:(ϑ)->Goroutine->Ξ}{b:Frame}{k:List Item}{cs:List Frame}{ops:Array Oper}
def ox{E:Act}{m:Nat}{vals:Nat->Θ}{I:(ϑ)->Ξ}(z:iw ops m E.tmps.size=true)(R:∀i,i<m->∀(a:Act)(M:List Nat)(O:ϑ)(w:Δ),(∀j∈fj ops i,∀d,dR ops j=some d->a.tmps[d]?=some (vals j))->(∀t,(∀j,j<m->dR ops j≠some t)->a.tmps[t]?=E.tmps[t]?)->I O w->
  (∀O' w',I O' w'->Pm.Way P main K A X Stop O' (G (b.at (a.put (dR ops i) (vals i)) (.inRegion ops M::k)) cs) w')->Pm.Way P main K A X Stop O (G (b.at a (.inRegion ops (i::M)::k)) cs) w)(hk:∀O w,I O w->∀l∈ik ops (ops.size-m) (rf m ops.size),Pm.Way P main K A X Stop O (G (b.at (AM E ops vals (List.range m)) (.inRegion ops l::k)) cs) w):∀O w,I O w->∀l∈ik ops ops.size (Array.replicate ops.size false),Pm.Way P main K A X Stop O (G (b.at E (.inRegion ops l::k)) cs) w:=by
 have c3:=iw.e z;have b1:∀(f:Nat)(p:List Nat)(c:Array Bool)(a:Act)(O:ϑ)(w:Δ),c.toList.count false=f->c.size=ops.size->p.Nodup->(∀j∈p,j<m)->(∀j,c.getD j false=true↔j∈p)->(∀i∈p,∀j∈fj ops i,j∈p)->sj E ops vals p a->I O w->
  ∀l∈ik ops f c,Pm.Way P main K A X Stop O (G (b.at a (.inRegion ops l::k)) cs) w:=by
  intro f;induction f with
  |zero=>
   intro p c a O w s Z _ U B _ _ _ _ _;exfalso;have hm:m<c.size:=ω;have u:c.getD m false=true:=by
    rw[ya,yl hm];simp;cases Y:c[m]with
    |true=>rfl
    |false=>exact absurd (Y▸Array.getElem_mem_toList hm) ((List.count_eq_zero.1 s))
   have:=U m ((B m).1 u);omega
  |succ f ih=>
   intro p c a O w s Z b6 U B hc hd hI l D;by_cases v:∀j,j<m->j∈p
   .have L:∀x,x∈p↔x∈List.range m:=λx=>⟨λh=>zD.2 (U x h),λh=>v x (zD.1 h)⟩;have W:sj E ops vals (List.range m) (AM E ops vals (List.range m)):=by have:=sj.fin (vals:=vals) z (List.range m) [] E sj.nil (by simpa using List.nodup_range) ς;rw[List.nil_append]at this;exact this
    have a4:c=rf m ops.size:=by
     refine Array.ext (by simp[rf];omega) λt u T=>?_;have S:=B t;rw[ya,yl u]at S;simp at S;have h4:(rf m ops.size)[t]=decide (t<m):=by
      simp only[rf,yf];rw[List.getElem_append];split
      .rename_i h;simp at h;simp[h]
      rename_i h;simp at h;simp;omega
     rw[h4];rw[Bool.eq_iff_iff,S,L t,zD];simp
    subst a4;have hf:f+1=ops.size-m:=by rw[<-s];simp[rf,List.count_replicate]
    rw[hf]at D;rw[(hd.f W L)];exact hk O w hI l D
   ·
    have F:∀i,i∈Region.ready .any ops c->i<m/\i∉p/\i<c.size/\c.getD i true=false/\∀j∈fj ops i,j∈p:=by
     intro i hi;obtain⟨h0,o,ho,N⟩:=mem_ready.1 hi;have q:∀j∈fj ops i,j∈p:=λj r=>by simp only[fj,ho,yW,yM]at r;obtain⟨e,⟨he,Y⟩,rfl⟩:=r;exact(B _).1 (N e (by simpa using he) Y)
     have C:i<m:=by refine Nat.lt_of_not_le λb2=>v λj r=>?_;exact CS hc 5 _ q j (iw.last z ((yk.1 ho).1) b2 r)
     refine⟨C,λH=>?_,ω,h0,q⟩;have u:=(B i).2 H;rw[ya,yl ω]at h0 u;simp at h0 u;rw[h0]at u;cases u
    have b5:Region.ready .any ops c≠[]:=by
     have b7:∃j,j<m/\j∉p:=Classical.byContradiction λa9=>v λj r=>Classical.byContradiction λh=>a9 ⟨j,r,h⟩;have a1:∀n j,j<=n->j<m->j∉p->∃i,i<m/\i∉p/\∀x,x<i->x∈p:=by
      intro n;induction n with
      |zero=>intro j u T S;exact⟨j,T,S,λx Q=>ω⟩
      |succ n a8=>
       intro j u T S;by_cases Q:∃x,x<j/\x∉p;obtain⟨x,a2,a5⟩:=Q;exact a8 x ω ω a5;exact⟨j,T,S,λx a2=>Classical.byContradiction λh=>Q ⟨x,a2,h⟩⟩
     obtain⟨j,c1,c0⟩:=b7;obtain⟨i,c2,b4,a7⟩:=a1 j j (yb _) c1 c0;have g:i<ops.size:=ω;have:i∈Region.ready .any ops c:=mem_ready.2 ⟨by
      have u:¬c.getD i false=true:=λh=>b4 ((B i).1 h);rw[ya,yl (ω:i<c.size)]at u⊢;simpa using u,ops[i],yl g,λe he Y=>(B _).2 (a7 _ (iw.c z g (by simp only[fj,yl g,yW,yM];exact⟨e,⟨by simpa using he,Y⟩,rfl⟩)))⟩
     intro h;rw[h]at this;cases this
    have a3:(Region.ready .any ops c).isEmpty=false:=by
     cases hr:Region.ready .any ops c with
     |nil=>exact absurd hr b5
     |cons x xs=>rfl
    simp only[ik,a3,yH,if_false,Km,yW]at D;obtain⟨i,hi,l',b8,rfl⟩:=D;obtain⟨C,H,g,V,q⟩:=F i hi;refine R i C a l' O w (λj r d b0=>hd.e j (q j r) d b0) (λt ht=>hd.c t λj r=>ht j (U j r)) hI λO' w' b9=>?_;have b3:c[i]=false:=by rw[ya,yl g]at V;simpa using V
    refine ih (p++[i]) (c.setIfInBounds i true) _ O' w' ?_ (by simpa using Z) ?_ ?_ ?_ ?_ (hd.put z U C H) b9 l' b8
    .rw[Array.toList_setIfInBounds,List.count_set (by simpa using g)];have:c.toList[i]'(by simpa using g)=false:=by simpa using b3
     rw[this,s];simp
    rw[GZ];exact⟨b6,ς,λx Q y hy e=>by simp at hy;subst hy;subst e;exact H Q⟩;intro j r;rcases yz.1 r with h|h;exact U j h;simp at h;omega;intro j;by_cases e:j=i;subst e;simp[Array.getD_eq_getD_getElem?,Array.getElem?_setIfInBounds_self_of_lt g];rw[ya,yP λh=>e h.symm,<-ya,B j];simp[e];intro x Q j r;rcases yz.1 Q with h|h;simp[hc x h j r];simp at h;subst h;simp[q j r]
 intro O w hI l B;refine b1 ops.size [] (Array.replicate ops.size false) E O w ?_ ς ς ς (λj=>?_) ς sj.nil hI l B;simp;simp[Array.getD_eq_getD_getElem?,Array.getElem?_replicate];split<;>simp
end
end
section
open Go Go.Conc Go.RowKit Go.Proofs
open Go.Pm (Rely Guar Ev grow Perm Fam Loose Among Sim Ran Sup Ext)
structure Gh(π:Perm)(w wa:Δ)(O:ϑ):Prop where
 a:Loose fam π w wa
 d:Pm.Shut fam w
 f:Tabs w
 e:Tabs wa
 c:Among fam π w.heap.size O
def lK(L:List (Nat×Obj))(O:ϑ)(π:Perm)(n:Nat)(wa:Δ):Prop:=∀x∈L,O x.1/\wa.heap[x.1]?=some x.2/\∀r,7<=r->r<n->π.f r≠x.1
structure qp(O K:ϑ)(w:Δ):Prop where
 c:∀b,O b->b<w.heap.size
 a:∀b,K b->b<w.heap.size
 ok:∀b,O b->¬K b
section
variable {K:ϑ}{A:Ξ}{X:Event->Prop}{Stop:(ϑ)->Goroutine->Ξ}{O:ϑ}{g:Goroutine}{π:Perm}{w wa waB:Δ}{L:List (Nat×Obj)}
def Gh.rely(h:Gh π w wa O)(d:∀b,b<2->K b)(a:Rely O K A wa waB):Gh π w waB O:=⟨h.a.rely h.c a,h.d,h.f,leafLaw.a wa waB (λb c=>a.a b (.inr (d b c))) h.e,h.c⟩
def Gh.b(h:Gh π w wa O){r o:Nat}{v:Θ}(a:7<=r)(b:ε w r o v):wa.cell? ⟨π.f r,o,none⟩=some (v.pm π)/\O (π.f r):=
 ⟨Sim.j h.a.i (a:=(aT r o)) a b,h.c r a (yI w _ b)⟩
def lK.rely(h:lK L O π w.heap.size wa)(b:Rely O K A wa waB):lK L O π w.heap.size waB:=λx a=>⟨(h x a).1,(b.a x.1 (.inl (h x a).1)).trans (h x a).2.1,(h x a).2.2⟩
def lL(h:Pm.Way prog true K A X Stop O g w)(e:qp O K w):Pm.Way prog true K A X (λO g w=>Stop O g w/\qp O K w) O g w:=by
 induction h with
 |stop h=>exact .stop λd a=>⟨h d a,λb c=>yg (e.c b c) a.size,λb c=>yg (e.a b c) a.size,e.ok⟩
 |@step O g w i f _ n=>
  refine .step i f λd r t s a k=>?_;obtain⟨q,p,o,l,j⟩:=f d a;rw[l]at k;obtain⟨rfl,rfl,rfl⟩:=aF k;refine n d _ _ _ a l ⟨λb c=>?_,λb c=>?_,λb c m=>?_⟩;rcases c with c|c;exact yg (e.c b c) (yr a.size j.size);exact c.2;exact yg (e.a b c) (yr a.size j.size);rcases c with c|c;exact e.ok b c m;have:=e.a b m;have:=a.size;omega
def fE(S:∀b,b<2->K b)(h:Gh π w wa O)(U:lK L O π w.heap.size wa){f:FuncId}(hF:fam f=true)(D:fam.leaf f=false){args j:Array Θ}(T:∀v∈args,Sup fam w.heap.size v)(o:args.map (Value.pm π)=j){R:Ending->Ξ}(z:∀E,Ext w E->ϖ f args (w.tp E) R)(V:∀e k,R e k->∃v,ϱ e v){c:Frame}{m:List Frame}(hk:∀v k a d q,R (.returned v) k->Gh a k d q->lK L q a k.heap.size d->w.heap.size<=k->(∀r,r<w.heap.size->a.f r=π.f r)->Sup fam k.heap.size v->Pm.Way prog true K A X Stop q (G (c.finish (v.pm a)) m) d):Pm.Way prog true K A X Stop O (G (Frame.enter prog f j .normal) (c::m)) wa:=by
 rw[<-o];refine Pm.rz progOk leafLaw S (λO π n wa C l Q x p=>⟨(l x p).1,(Q.a x.1 (.inl (l x p).1)).trans (l x p).2.1,(l x p).2.2⟩) (λO π a w wa k d l _ F i x p=>?_) U h.a h.d h.f h.e h.c hF D T z V λv k a d q s t h3 h4 Y N W P M l=>hk v k a d q s ⟨t,h3,h4,Y,N⟩ l W P M;obtain⟨Z,I,H⟩:=l x p;have B:=(yk.1 I).1;refine⟨.inl Z,(i.j x.1 B λr s t=>H r s t).trans I,λr s t e=>?_⟩;by_cases z:r<w;exact H r s z (by rw[<-i.c r z];exact e);have:=i.k r ω t;omega
end
end
end Go.Cr
namespace Go.Proofs.Y
section
open Go.RowKit
open Go.Cr Go.Conc
open Go.Pm (Rely Perm Sup Ext)
open Md (Grp Book)
def GY.d{w w':Δ}{FG:ϑ}{gb:Nat}{G:Grp}(g:GY w FG gb G)(h:w'.heap=w.heap):GY w' FG gb G:=by obtain⟨pb,bl,Fp,Fn,nv,g,hW⟩:=g;exact⟨pb,bl,Fp,Fn,nv,g.k (λx _=>by rw[h]) (λx _=>by rw[h]) (by rw[h];exact yb _),hW⟩
def GY.f{w:Δ}{FG:ϑ}{gb:Nat}{G:Grp}(g:GY w FG gb G):7<=gb/\gb<w:=by obtain⟨pb,bl,Fp,Fn,nv,g,hW⟩:=g;exact⟨g.g.1,g.net.a.f⟩
def jY{w:Δ}{b:Nat}(h10:7<=b)(hb:b<w):Sup fam w (pT b 0):=λσ hσ=>by have:σ.f b=b:=hσ.1 b h10 hb;simp[Addr.pm,this]
def eM{n:Nat}{v:Θ}(h:∀ρ:Perm,v.pm ρ=v):Sup fam n v:=λσ _=>h σ
structure gN where
 n:Nat
 d:Nat
 b:Nat
 a:Bool
abbrev zV:=Grp->Book->Prop
def Mq(c:gN)(P0 G0:Nat)(J:zV)(L:List (Nat×Obj))(O:ϑ)(wa:Δ):Prop:=
 ∃(π:Perm)(w:Δ)(pp gb:Nat)(FG:ϑ)(G:Grp)(cr:Book),Gh π w wa O/\lK L O π w.heap.size wa/\π.f pp=P0/\π.f gb=G0/\7<=pp/\CC w pp gb c.n c.d c.b cr c.a/\¬FG pp/\GY w FG gb G/\J G cr
section
variable {c:gN}{P0 G0:Nat}{J J':zV}{L:List (Nat×Obj)}{O K:ϑ}{A:Ξ}{X:Event->Prop}{Stop:(ϑ)->Goroutine->Ξ}{wa waB:Δ}
def Mq.rely(h:Mq c P0 G0 J L O wa)(hK:∀b,b<2->K b)(hr:Rely O K A wa waB):Mq c P0 G0 J L O waB:=by obtain⟨π,w,pp,gb,FG,G,cr,h1,h2,h3⟩:=h;exact⟨π,w,pp,gb,FG,G,cr,h1.rely hK hr,h2.rely hr,h3⟩
def Mq.b(h:Mq c P0 G0 J L O wa)(hJ:∀G cr,J G cr->J' G cr):Mq c P0 G0 J' L O wa:=by obtain⟨π,w,pp,gb,FG,G,cr,h1,h2,h3,h4,h5,h6,h7,h8,h9⟩:=h;exact⟨π,w,pp,gb,FG,G,cr,h1,h2,h3,h4,h5,h6,h7,h8,hJ _ _ h9⟩
def Mq.e(h:Mq c P0 G0 J L O wa):∃G cr,J G cr/\Mq c P0 G0 (λG' cr'=>G'=G/\cr'=cr) L O wa:=by obtain⟨π,w,pp,gb,FG,G,cr,h1,h2,h3,h4,h5,h6,h7,h8,h9⟩:=h;exact⟨G,cr,h9,π,w,pp,gb,FG,G,cr,h1,h2,h3,h4,h5,h6,h7,h8,rfl,rfl⟩
def Mq.a{G:Grp}{cr:Book}(h:Mq c P0 G0 (λG' cr'=>G'=G/\cr'=cr) L O wa):O P0/\ε wa P0 0 (pT G0 0)/\ε wa P0 1 (.int .i64 c.n)/\(∀k,k<6->wa.cell? ⟨P0,4+k,none⟩=some (.bool (cr k)))/\ε wa P0 10 (.bool c.a):=by
 obtain⟨π,w,pp,gb,FG,G',cr',h1,h2,rfl,rfl,h5,h6,-,-,rfl,rfl⟩:=h;have c0:=h1.b h5 (af.a h6 0 _ rfl);refine⟨c0.2,by simpa[Addr.pm]using c0.1,by simpa using (h1.b h5 (af.a h6 1 _ rfl)).1,λk hk=>?_,by simpa using (h1.b h5 (af.a h6 10 _ rfl)).1⟩;match k,hk with
 |0,_=>simpa using (h1.b h5 (af.a h6 4 _ rfl)).1
 |1,_=>simpa using (h1.b h5 (af.a h6 5 _ rfl)).1
 |2,_=>simpa using (h1.b h5 (af.a h6 6 _ rfl)).1
 |3,_=>simpa using (h1.b h5 (af.a h6 7 _ rfl)).1
 |4,_=>simpa using (h1.b h5 (af.a h6 8 _ rfl)).1
 |5,_=>simpa using (h1.b h5 (af.a h6 9 _ rfl)).1
def Mq.f(h:Mq c P0 G0 J L O wa)(hK:∀b,b<2->K b){f:FuncId}(hF:fam f=true)(hlf:fam.leaf f=false)(onG:Bool){args:List Θ}(ha:∀v∈args,∀ρ:Perm,v.pm ρ=v){Q:Θ->zV}{cf:Frame}{rest:List Frame}(hc:∀w pp gb FG G cr,CC w pp gb c.n c.d c.b cr c.a->¬FG pp->GY w FG gb G->J G cr->ϖ f (Value.pointer (some ⟨if onG then gb else pp,0,none⟩)::args).toArray w λe w'=>∃v,ϱ e v/\(∀ρ:Perm,v.pm ρ=v)/\∃G',GT w w' FG gb G'/\Q v G' cr)(hk:∀v O' wa',Mq c P0 G0 (Q v) L O' wa'->Pm.Way prog true K A X Stop O' (G (cf.finish v) rest) wa'):Pm.Way prog true K A X Stop O (G (Frame.enter prog f (Value.pointer (some ⟨if onG then G0 else P0,0,none⟩)::args).toArray .normal) (cf::rest)) wa:=by
 obtain⟨π,w,pp,gb,FG,G,cr,h1,h2,rfl,rfl,h5,h6,h7,h8,h9⟩:=h;have hgb:=h8.f;have hpp:pp<w:=af.f h6;refine fE hK h1 h2 hF hlf (args:=(Value.pointer (some ⟨if onG then gb else pp,0,none⟩)::args).toArray) (λv hv=>?_) ?_ (R:=λe w'=>∃v,ϱ e v/\(∀ρ:Perm,v.pm ρ=v)/\∃G',(∀k,k<w.heap.size->¬FG k->w'.heap[k]?=w.heap[k]?)/\GY w' (aY FG w) gb G'/\Q v G' cr) (λτ _=>?_) (λe w' h=>?_) λv w' π' wa' O' hR hg hL hsz hsame _=>?_
 .rw[Cy]at hv;rcases yF.1 hv with rfl|hv;cases onG;exact jY h5 hpp;exact jY hgb.1 hgb.2;exact eM (ha v hv)
 .rw[Fj,yN,iL λv hv=>ha v hv π];cases onG<;>simp[Addr.pm]
 refine(hc (w.tp τ) pp gb FG G cr h6 h7 (h8.d rfl) h9).mono ?_;rintro e w'⟨v,rfl,hv,G',hgs,hq⟩;exact⟨v,rfl,hv,G',λk hk hn=>hgs.1.block k hk hn,hgs.2,hq⟩;obtain⟨v,h,-⟩:=h;exact⟨v,h⟩;obtain⟨v',e,hv,G',hbl,hgx,hq⟩:=hR;injection e with e;subst e;rw[hv];refine hk v O' wa' ⟨π',w',pp,gb,aY FG w,G',cr,hg,hL,hsame pp hpp,hsame gb hgb.2,h5,(hbl pp hpp h7).trans h6,λe=>?_,hgx,hq⟩;rcases e with e|e;exact h7 e;omega
def Mq.g(h:Mq c P0 G0 J L O wa)(hK:∀b,b<2->K b){f:FuncId}(hF:fam f=true)(hlf:fam.leaf f=false){args:List Θ}(ha:∀v∈args,∀ρ:Perm,v.pm ρ=v){v:Θ}(hv:∀ρ:Perm,v.pm ρ=v){cf:Frame}{rest:List Frame}(hc:∀w,ϖ f args.toArray w λe w'=>ϱ e v/\w'=w)(hk:∀O' wa',Mq c P0 G0 J L O' wa'->Pm.Way prog true K A X Stop O' (G (cf.finish v) rest) wa'):Pm.Way prog true K A X Stop O (G (Frame.enter prog f args.toArray .normal) (cf::rest)) wa:=by
 obtain⟨π,w,pp,gb,FG,G,cr,h1,h2,rfl,rfl,h5,h6,h7,h8,h9⟩:=h;refine fE hK h1 h2 hF hlf (args:=args.toArray) (λv hv=>eM (ha v (by simpa using hv))) (by rw[Fj,iL λv hv=>ha v hv π]) (R:=λe w'=>ϱ e v/\w'.heap=w.heap) (λτ _=>(hc (w.tp τ)).mono λe w' h=>⟨h.1,by rw[h.2];rfl⟩) (λe w' h=>⟨v,h.1⟩) λv' w' π' wa' O' hR hg hL hsz hsame _=>?_;obtain⟨e,hh⟩:=hR;injection e with e;subst e;rw[hv];exact hk O' wa' ⟨π',w',pp,gb,FG,G,cr,hg,hL,hsame pp (af.f h6),hsame gb h8.f.2,h5,(by show w'.heap[pp]?=_;rw[hh];exact h6),h7,h8.d hh,h9⟩
def Mq.i(h:Mq c P0 G0 J L O wa)(ob:Obj):Mq c P0 G0 J ((wa.heap.size,ob)::L) (λb=>O b\/b=wa) (wa.alloc ob):=by obtain⟨π,w,pp,gb,FG,G,cr,h1,h2,h3⟩:=h;have hold:∀b,b<wa.heap.size->(wa.alloc ob).heap[b]?=wa.heap[b]?:=λb hb=>Below.heap_alloc _ _ _ hb;have hlt:∀r,r<w.heap.size->π.f r<wa:=λr hr=>h1.a.i.k hr;have h10:7<=wa.heap.size:=h1.a.a;refine⟨π,w,pp,gb,FG,G,cr,⟨⟨λr o hl hr=>?_,h1.a.d,h1.a.c,by have:=h1.a.a;simp at this⊢;omega,h1.a.os,h1.a.g,h1.a.b⟩,h1.d,h1.f,bR h1.e λx hx=>hold x ω,λr h8 hr=>.inl (h1.c r h8 hr)⟩,λx hx=>?_,h3⟩;rw[hold _ (hlt r (yk.1 hr).1)];exact h1.a.e r o hl hr;rcases yF.1 hx with rfl|hx;exact⟨.inr rfl,heap_alloc_new wa ob,λr _ hr e=>by have:=hlt r hr;simp only at e;omega⟩;obtain⟨z1,z2,z3⟩:=h2 x hx;exact⟨.inl z1,(hold _ (yk.1 z2).1).trans z2,z3⟩
def Mq.side(h:Mq c P0 G0 J L O wa){bx:Nat}{cs:Array Θ}{ty:TypeId}(hx:(bx,Obj.cells cs ty (0,0))∈L):O bx/\∀(j:Nat)(u:Θ),cs[j]?=some u->ε wa bx j u:=by obtain⟨π,w,pp,gb,FG,G,cr,h1,h2,h3⟩:=h;obtain⟨z1,z2,-⟩:=h2 _ hx;exact⟨z1,λj u hu=>af.a (T:=ty) (cs:=cs) z2 j u hu⟩
def Mq.d(h:Mq c P0 G0 J L O wa){L':List (Nat×Obj)}(hL:∀x∈L',x∈L):Mq c P0 G0 J L' O wa:=by obtain⟨π,w,pp,gb,FG,G,cr,h1,h2,h3⟩:=h;exact⟨π,w,pp,gb,FG,G,cr,h1,λx hx=>h2 x (hL x hx),h3⟩
end
open Go.Pm (Ev)
open Md (PS Wf GW)
variable {rest:List Frame}{c cf:Frame}{a:Nat}{ua:Θ}
abbrev Jt:=(Nat->List Ev)->Prop
def xj(n:Nat)(J:Jt)(V:Θ)(us:List Θ)(L:List (Nat×Obj))(O:ϑ)(wa:Δ):Prop:=
 ∃(π:Perm)(w:Δ)(base:Nat)(ls:Nat->List Ev)(v:Θ)(vs:List Θ),Gh π w wa O/\lK L O π w.heap.size wa/\7<=base/\vs.length=n/\jN w base ls v vs/\v.pm π=V/\vs.map (Value.pm π)=us/\J ls
inductive Io
 |flat (u:Θ)
 |all
 |one (a:Nat)
def Io.b(v:Θ)(vs:List Θ):Io->Θ
 |.flat u=>u
 |.all=>v
 |.one a=>vs.getD a (.bool false)
def Io.ok:Io->Prop
 |.flat u=>∀ρ:Perm,u.pm ρ=u
 |_=>True
section
variable {n:Nat}{J:Jt}{V:Θ}{us:List Θ}{L:List (Nat×Obj)}{O K:ϑ}{A:Ξ}{X:Event->Prop}{Stop:(ϑ)->Goroutine->Ξ}{wa waB:Δ}
def xj.rely(h:xj n J V us L O wa)(i:∀b,b<2->K b)(e:Rely O K A wa waB):xj n J V us L O waB:=by obtain⟨l,w,d,g,v,m,k,j,f⟩:=h;exact⟨l,w,d,g,v,m,k.rely i e,j.rely e,f⟩
def xj.f(h:xj n J V us L O wa):∀x∈L,wa.heap[x.1]?=some x.2:=by obtain⟨i,w,b,j,v,k,g,e,f⟩:=h;exact λx d=>(e x d).2.1
def jN.d{w w':Δ}{b:Nat}{f:Nat->List Ev}{v:Θ}{j:List Θ}(t:jN w b f v j)(h:∀k,k<w.heap.size->w'.heap[k]?=w.heap[k]?):jN w' b f v j:=
 ⟨aj t.b λg d=>h g (t.b.lt g d).2,λi u e=>aj (t.a i u e) λg d=>h g ((t.a i u e).lt g d).2⟩
def xj.e(h:xj n J V us L O wa)(C:1<=n):us.length=n/\∃m b,V=sT m n b/\O m/\∀k u,us[k]?=some u->ε wa m k u:=by
 obtain⟨x,w,o,B,v,D,p,F,E,q,i,rfl,rfl,-⟩:=h;refine⟨by rw[yL];exact q,?_⟩;rcases i.b.2 with ⟨-,l⟩|⟨g,b,y,l,t,-⟩;omega;have d:v.ownBlock=some g:=by rw[l];rfl
 refine⟨x.f g,b,by rw[l,q];simp[Addr.pm],p.c g (show 7<=g by omega) (i.b.lt g d).2,λk u r=>?_⟩;rw[yZ]at r;obtain⟨z,j,rfl⟩:=yE.1 r;have s:=i.b.cells d k z j;rw[lu]at s;exact(p.b ω s).1
def xj.at{d b:Nat}(h:xj n J (sT d n b) us L O wa)(m:1<=n):us.length=n/\O d/\∀k u,us[k]?=some u->ε wa d k u:=by obtain⟨l,j,f,e,i,g⟩:=h.e m;simp at e;obtain⟨⟨rfl,-⟩,-⟩:=e;exact⟨l,i,g⟩
end
section
variable {n:Nat}{V:Θ}{us:List Θ}{L:List (Nat×Obj)}{O K:ϑ}{A:Ξ}{X:Event->Prop}{Stop:(ϑ)->Goroutine->Ξ}{wa waB:Δ}
end
section
variable{c5:gN}{P0 G0:Nat}{J:zV}{L:List (Nat×Obj)}{O K:ϑ}{A:Ξ}{X:Event->Prop}{Stop:(ϑ)->Goroutine->Ξ}{wa waB:Δ}
def M0(L:List (Nat×Obj))(O:ϑ)(wa:Δ):Prop:=∃(π:Perm)(w:Δ),Gh π w wa O/\lK L O π w.heap.size wa
def M0.rely(h:M0 L O wa)(i:∀b,b<2->K b)(d:Rely O K A wa waB):M0 L O waB:=by obtain⟨g,w,f,e⟩:=h;exact⟨g,w,f.rely i d,e.rely d⟩
def M0.g(h:Tabs wa)(e:7<=wa.heap.size)(i:∀x∈L,O x.1/\wa.heap[x.1]?=some x.2):M0 L O wa:=by have c:Cl wa (λ_=>False):=⟨h,e,λx d=>d.elim⟩;obtain⟨w,l,m,k,j,-,b,-⟩:=c.e;exact⟨l,w,⟨m,k,j,h,λr g f=>(b r g f).elim⟩,λx d=>⟨(i x d).1,(i x d).2,λr g f=>(b r g f).elim⟩⟩
def M0.f(h:M0 L O wa)(m:Obj):M0 ((wa.heap.size,m)::L) (λb=>O b\/b=wa) (wa.alloc m):=by obtain⟨p,w,d,v⟩:=h;have i:∀b,b<wa.heap.size->(wa.alloc m).heap[b]?=wa.heap[b]?:=λb y=>Below.heap_alloc _ _ _ y;have k:∀r,r<w.heap.size->p.f r<wa:=λr j=>d.a.i.k j;have t:7<=wa.heap.size:=d.a.a;refine⟨p,w,⟨⟨λr o z j=>?_,d.a.d,d.a.c,by have:=d.a.a;simp at this⊢;omega,d.a.os,d.a.g,d.a.b⟩,d.d,d.f,bR d.e λx l=>i x ω,λr u j=>.inl (d.c r u j)⟩,λx l=>?_⟩;rw[i _ (k r (yk.1 j).1)];exact d.a.e r o z j;rcases yF.1 l with rfl|l;exact⟨.inr rfl,heap_alloc_new wa m,λr _ j e=>by have:=k r j;simp only at e;omega⟩;obtain⟨s,n,q⟩:=v x l;exact⟨.inl s,(i _ (yk.1 n).1).trans n,q⟩
def M0.side(h:M0 L O wa){b:Nat}{d:Array Θ}{f:TypeId}(e:(b,Obj.cells d f (0,0))∈L):O b/\∀(j:Nat)(u:Θ),d[j]?=some u->ε wa b j u:=by obtain⟨n,w,m,k⟩:=h;obtain⟨i,l,-⟩:=k _ e;exact⟨i,λj u g=>af.a l j u g⟩
def M0.e(h:M0 L O wa){L':List (Nat×Obj)}(d:∀x∈L',x∈L):M0 L' O wa:=by obtain⟨g,w,f,e⟩:=h;exact⟨g,w,f,λx b=>e x (d x b)⟩
def M0.d(h:M0 L O wa)(p:∀b,b<2->K b)(a b c:Int)(o:j7 a)(t:j7 b)(m:j7 c)(l:∀f d,M0 L f d->Pm.Way prog true K A X Stop f (G (cf.finish (.agg #[.int .i64 ((1+bw a 6:Nat):Int),.int .i64 ((1+bw b 8:Nat):Int),.int .i64 ((1+bw c 4000:Nat):Int)])) rest) d):Pm.Way prog true K A X Stop O (G (Frame.enter prog 14 #[.agg #[.int .i64 a,.int .i64 b,.int .i64 c]] .normal) (cf::rest)) wa:=by
 obtain⟨y,w,k,r⟩:=h;refine fE p k r rfl rfl (λu j=>?_) ς (λx _=>(BP a b c _ o t m).mono λe g h=>h.1) (λe g h=>⟨_,h⟩) λv g i d f s n q _ _ _=>?_;simp at j;subst j;exact eM ς;injection s with e;subst e;simpa using l f d ⟨i,g,n,q⟩
def M0.b(h:M0 L O wa)(F:∀b,b<2->K b)(t:1<=c5.n/\c5.n<=6)(s:1<=c5.d/\c5.d<=8)(C:1<=c5.b/\c5.b<=4000)(B:∀r N k d,Mq c5 r N (λG z=>Md.dY c5.a c5.n c5.d c5.b G z) L k d->Pm.Way prog true K A X Stop k (G (cf.finish (pT r 0)) rest) d):Pm.Way prog true K A X Stop O (G (Frame.enter prog 25 #[.agg #[.int .i64 c5.n,.int .i64 c5.d,.int .i64 c5.b],.bool c5.a] .normal) (cf::rest)) wa:=by
 obtain⟨P,w,j,M⟩:=h;refine fE F j M rfl rfl (λu q=>?_) ς (R:=λe i=>∃f g,ϱ e (pT f 0)/\CC i f g c5.n c5.d c5.b (λ_=>false) c5.a/\w<=f/\GY i (λx=>w<=x/\x<f) g (BZ c5.n c5.d c5.b)) (λy _=>(EX (w.tp y) c5.a j.f j.a.c t s C).mono ?_) (λe i h=>?_) λv i l d k I D H _ _ _=>?_
 .simp at q;rcases q with rfl|rfl<;>exact eM ς
 rintro e i⟨f,g,rfl,-,m,p,o⟩;exact⟨f,g,rfl,m,p,o⟩;obtain⟨f,g,h,-⟩:=h;exact⟨_,h⟩;obtain⟨f,g,e,m,p,o⟩:=I;injection e with e;subst e;have:=B _ _ k d ⟨l,i,f,g,_,_,_,D,H,rfl,rfl,by have E:7<=w.heap.size:=j.a.c;omega,m,λh=>ω,o,.start⟩;simpa[Addr.pm]using this
end
end
section
open Go.RowKit
open Go.Cr Go.Conc
open Go.Pm (Perm Loose Among Sup Ext SupO obj_comp pm_comp loose_live)
open Md (PS Wf)
def Loose.KL{d c:Perm}{j w i:Δ}(h:Loose fam d w i)(a:Loose fam c j w):Loose fam (d.Mg c) j i:=by refine⟨λr o l e=>?_,λr e=>?_,a.c,h.a,h.os.trans a.os,λf=>?_,?_⟩;have k:=h.e _ _ (loose_live a l) (a.e r o l e);rw[obj_comp]at k;exact k;show d.f _=r;rw[a.d r e,h.d r e];show d.g _=f;rw[a.g,h.g];show (d.b !=c.b)=false;rw[h.b,a.b];rfl
def Loose.Hi{c:Perm}{w d a:Δ}(h:Loose fam c w d)(l:∀r,7<=r->r<w.heap.size->a.heap[c.f r]?=d.heap[c.f r]?)(e:d.heap.size<=a)(i:a.os=d.os):Loose fam c w a:=
 ⟨λr o k j=>(l r k (yk.1 j).1).trans (h.e r o k j),h.d,h.c,yr h.a e,i.trans h.os,h.g,h.b⟩
def Cl.h{w:Δ}{F:ϑ}(c:Cl w F){g:Nat}{a:Array Θ}{e:TypeId}{h:Nat×Nat}(d:7<=g)(l:w.heap[g]?=some (.cells a e h))(i:∀u∈a.toList,∀p:Perm,u.pm p=u):Cl w (λx=>F x\/x=g):=by refine⟨c.g,c.f,λx b=>?_⟩;rcases b with b|rfl;obtain⟨n,o,q,k⟩:=c.d x b;exact⟨n,o,q,k.a λr _ f=>.inl f⟩;refine⟨d,_,l,λm _=>?_⟩;simp only[Obj.pm,Obj.cells.injEq,and_true];have:=iL λu j=>i u j m;exact Array.ext' (by simpa using this)
def KU(b0:Nat)(S:PS)(D:ϑ):bE:=λO wa=>
 ∃(ρ:Perm)(W:Δ)(b:Nat)(F:ϑ),Loose fam ρ W wa/\Pm.Shut fam W/\Among fam ρ W.heap.size O/\(∀x,D x->∃r,7<=r/\r<W.heap.size/\ρ.f r=x)/\ρ.f b=b0/\(∀x,F x->7<=x/\x<W.heap.size)/\PZ W F b S
def KU.a{g:Nat}{S:PS}{D K:ϑ}(O:ϑ)(w a:Δ)(m:∀b,O b\/K b->a.heap[b]?=w.heap[b]?)(d:w.heap.size<=a)(e:a.eo=w.eo)(h:KU g S D O w):KU g S D O a:=by obtain⟨n,W,b,F,l,k,f,j⟩:=h;exact⟨n,W,b,F,Loose.Hi l (λr c i=>m _ (.inl (f r c i))) d (congrArg Prod.fst e),k,f,j⟩
section
variable {b base:Nat}{π:Perm}{w wa dJ:Δ}{F:ϑ}{S:PS}{v:Θ}{l:List (List UInt8)}{R:ϑ}{A:Ξ}
def Fq(F:ϑ)(v:Θ):ϑ:=λr=>F r\/v.ownBlock=some r
def KG(cur:Array Θ):Prop:=∀u∈cur.toList,∃s,u=Value.string s
def Fq.a(c:Cl w F){m:Nat}{B:List Θ}(j:w.ownsRow base 9 1 v m B)(f:7<=base)(i:∀g a e q,v.ownBlock=some g->w.heap[g]?=some (.cells a e q)->KG a):Cl w (Fq F v):=by
 rcases d:v.ownBlock with _|g
 .have e:Fq F v=F:=by funext r;apply propext;unfold Fq;rw[d];exact⟨λh=>h.elim id nofun,Or.inl⟩
  rw[e];exact c
 have e:Fq F v=λx=>F x\/x=g:=by funext r;apply propext;unfold Fq;rw[d];exact⟨λh=>h.imp id λh=>by injection h with h;exact h.symm,λh=>h.imp id λh=>by rw[h]⟩
 rw[e];rcases j.2 with ⟨k,-⟩|⟨p,t,a,k,n,o,-⟩;rw[k]at d;cases d;have z:p=g:=by rw[k]at d;simpa[Value.ownBlock]using d
 subst z;refine c.h (yr f n) o λu y C=>?_;obtain⟨s,rfl⟩:=i p a _ _ d o u y;simp
def GN(a4:Loose fam π w wa)(p:PZ w F b S)(c:Cl w F)(wf:Wf S)(hs:S.e=[])(a5:l.length<=40000)(a8:∀s∈l,s.length<=140737488351232)(m:w.ownsRow base 9 1 v l.length (l.map λs=>Value.string ⟨s.toArray⟩))(E:7<=base)(z:∀g L e fz,v.ownBlock=some g->w.heap[g]?=some (.cells L e fz)->KG L)(Q:∀g,v.ownBlock=some g->¬F g)(hR:∀b,b<2->R b)(b3:Tabs dJ)(H:∀r,Fq F v r->dJ.heap[π.f r]?=wa.heap[π.f r]?)(b0:wa.heap.size<=dJ)(a2:dJ.eo=wa.eo):ov prog false R A oK 101 #[.pointer (some ⟨π.f b,0,none⟩),v.pm π] (λx=>∃r,Fq F v r/\π.f r=x) dJ λ_=>KU (π.f b) (S.Nc l) (λx=>∃r,Fq F v r/\π.f r=x):=by
 obtain⟨j,a,hL,hS,hT,-,U,d,Y,-⟩:=(Fq.a c m E z).e;obtain⟨o0,p0⟩:=p.c λr o B ho=>Y r o (.inl B) ho;have y:=d b (.inl p.d);have Z:=λx k=>by have n:=d _ (show Fq F v (a.f x) from k);rwa [a.a]at n
 have t:∀x,tf a.MS F x->tf a.MS (Fq F v) x:=λx k=>.inl k;have p1:=(p0.c t).h;have a7:∀x,o0.M (a.i b) x->tf a.MS F x:=λx k=>by rcases p0.h.mf k with h|h;exact h;have:=p0.h.h k;omega
 have K:eB j (o0.R (aY (tf a.MS (Fq F v)) j) (a.i b)) 9 1 (v.pm a.MS) l.length (l.map λs=>Value.string ⟨s.toArray⟩):=by
  have r0:eB w (Fq F v) 9 1 v l.length (l.map λs=>Value.string ⟨s.toArray⟩):=⟨(wG (λ_ _=>trivial) m).d,λg q=>.inr q⟩;have r1:=eB.j Y (λx k=>by obtain⟨s,-,rfl⟩:=yW.1 k;simp) r0
  refine⟨r1.d,λg q=>⟨.inl (r1.c g q),λhM=>?_⟩⟩;have n:v.ownBlock=some (a.f g):=by rw[qe]at q;obtain⟨g0,O,e⟩:=yE.1 q;have:a.i g0=g:=e;rw[<-this,a.c];exact O
  exact Q _ n (a7 g hM)
 have C:¬aY (tf a.MS (Fq F v)) j 1:=λe=>by rcases e with e|e;have:=(Z 1 e).1;omega;have:=hL.c;omega
 intro b4 cf b5 G;have D:(#[Value.pointer (some ⟨a.i b,0,none⟩),v.pm a.MS].map (Value.pm (π.Mg a)))=#[.pointer (some ⟨π.f b,0,none⟩),v.pm π]:=by
  have e1:(v.pm a.MS).pm (π.Mg a)=v.pm π:=by rw[<-pm_comp π a,pm_comp a a.MS,Pm.rr _ (Perm.M7 a)]
  have e2:(π.Mg a).f (a.i b)=π.f b:=by show π.f _=π.f b;rw[a.c]
  simp[e1,Addr.pm,e2]
 rw[<-D];refine Pm.Dr progOk leafLaw hR (Loose.Hi (Loose.KL a4 hL) (λr I B=>H _ (U r I B)) b0 (congrArg Prod.fst a2)) hS hT b3 (λr I B=>⟨a.f r,U r I B,rfl⟩) rfl rfl (λu hu=>?_) (R:=λe P=>ϱ e (.tuple #[])/\∃W,PP P (aY (tf a.MS (Fq F v)) j) (a.i b) (S.Nc l) W) (λN _=>?_) (λe P h=>⟨_,h.1⟩) λv' P b1 a6 O' a3 hl a9 _ _ b2 V a0 _=>?_;intro σ T;simp at hu;rcases hu with rfl|rfl;have:=T.1 _ y.1 y.2;simp[Addr.pm,this];rcases m.2 with ⟨O,-⟩|⟨g,b6,L,O,-⟩;rw[O];simp;have q:=d g (.inr (by rw[O];rfl));have:=T.1 _ q.1 q.2;rw[O];simp[Addr.pm,Perm.MS,this];have hk:∀x:Nat,(j.tp N).heap[x]?=j.heap[x]?:=λ_=>rfl;have p2:PP (j.tp N) (aY (tf a.MS (Fq F v)) j) (a.i b) S o0:=((p0.c t).g (w':=j.tp N) (λx _ _=>hk x) (yb _)).h;have r2:eB (j.tp N) (o0.R (aY (tf a.MS (Fq F v)) j) (a.i b)) 9 1 (v.pm a.MS) l.length (l.map λs=>Value.string ⟨s.toArray⟩):=K.i λx _=>hk x;have X:CH (j.tp N):=wY (w:=j.tp N) (bR hT λx _=>hk x);refine(GM p2 wf X C (by rw[hs];simp) a5 a8 r2).m ?_;rintro P⟨W,h'⟩;exact⟨rfl,W,h'.c⟩;obtain⟨-,W,hp⟩:=a3;refine G _ O' a6 ⟨b1,P,a.i b,λx=>aY (tf a.MS (Fq F v)) j x/\x<P,hl,a9,b2,λx k=>?_,?_,λx k=>⟨?_,k.2⟩,W,hp.a6⟩;obtain⟨r,B,rfl⟩:=k;have n:=d r B;refine⟨a.i r,n.1,yg n.2 V,?_⟩;rw[a0 _ n.2];show π.f (a.f (a.i r))=π.f r;rw[a.c];rw[a0 _ y.2];show π.f (a.f (a.i b))=π.f b;rw[a.c];rcases k.1 with n|n;exact(Z x n).1;have:7<=j.heap.size:=hL.c;omega
end
open Go.Pm (merge)
open Md (Grp)
variable {gb pb:Nat}{bl:Nat->Nat}{Fp Bw Os:Nat->ϑ}{G:Grp}{st':Nat->PS}{π:Perm}{w wa wa':Δ}
def E5(h:Loose fam π w wa)(hs:Pm.Shut fam w)(b4:Tabs wa')(g:GQ w gb pb bl Fp (λ_=>False) G (sN))(a6:G.a=[])(a1:∀i,i<G.n->¬Bw i gb/\¬Bw i pb)(b1:wa.heap.size<=wa')(E:∀r,7<=r->r<w.heap.size->(∀i,i<G.n->¬Bw i r)->wa'.heap[π.f r]?=wa.heap[π.f r]?)(hq:∀i,i<G.n->KU (π.f (bl i)) (st' i) (λx=>∃r,Bw i r/\π.f r=x) (Os i) wa')(Q:∀i k,i<G.n->k<G.n->i≠k->∀b,Os i b->¬Os k b)(O:∀i,i<G.n->∀r,7<=r->r<w.heap.size->(∀j,j<G.n->¬Bw j r)->¬Os i (π.f r)):∃(q:Δ)(a:Perm)(V:Nat->ϑ),Loose fam a q wa'/\Pm.Shut fam q/\Tabs q/\w.heap.size<=q/\(∀r,r<w.heap.size->a.f r=π.f r)/\(∀r,7<=r->r<w.heap.size->(∀i,i<G.n->¬Bw i r)->q.heap[r]? =w.heap[r]?)/\
   (∀r,7<=r->r<q.heap.size->(r<w.heap.size/\∀i,i<G.n->¬Bw i r)\/∃i,i<G.n/\Os i (a.f r))/\GQ q gb pb bl V (λ_=>False) {G with b:=st'} (sN)/\(∀i x,i<G.n->V i x->Bw i x\/w.heap.size<=x):=by
 have a0:∀i,∃t:Perm×Δ×Nat×(ϑ),i<G.n->Loose fam t.1 t.2.1 wa'/\Pm.Shut fam t.2.1/\Among fam t.1 t.2.1.heap.size (Os i)/\(∀x,(∃r,Bw i r/\π.f r=x)->∃r,7<=r/\r<t.2.1.heap.size/\t.1.f r=x)/\t.1.f t.2.2.1=π.f (bl i)/\(∀x,t.2.2.2 x->7<=x/\x<t.2.1.heap.size)/\PZ t.2.1 t.2.2.2 t.2.2.1 (st' i):=λi=>by
  by_cases c:i<G.n
  obtain⟨l,W,b,F,hh⟩:=hq i c;exact⟨(l,W,b,F),λ_=>hh⟩;exact⟨(Perm.id,w,0,λ_=>False),λh=>absurd h c⟩
 obtain⟨T,hT⟩:=Classical.axiomOfChoice a0;obtain⟨l,a2⟩:∃l:Nat->Perm,l=λi=>(T i).1:=⟨_,rfl⟩;obtain⟨W,hW⟩:∃W:Nat->Δ,W=λi=>(T i).2.1:=⟨_,rfl⟩;obtain⟨b,C⟩:∃b:Nat->Nat,b=λi=>(T i).2.2.1:=⟨_,rfl⟩;obtain⟨F,hF⟩:∃F:Nat->ϑ,F=λi=>(T i).2.2.2:=⟨_,rfl⟩;have H:∀i,i<G.n->Loose fam (l i) (W i) wa'/\Pm.Shut fam (W i)/\Among fam (l i) (W i).heap.size (Os i)/\(∀x,(∃r,Bw i r/\π.f r=x)->∃r,7<=r/\r<(W i).heap.size/\(l i).f r=x)/\(l i).f (b i)=π.f (bl i)/\(∀x,F i x->7<=x/\x<(W i).heap.size)/\PZ (W i) (F i) (b i) (st' i):=by subst a2 hW C hF;exact hT
 clear hT a2 hW C hF a0 hq;clear T;obtain⟨q,a,p,a8,a7,s,a3,hK,u,R,-⟩:=merge h hs (yr h.a b1) (λi c=>⟨(H i c).1,(H i c).2.1⟩) (λr o hl b5 y=>(E r hl (yk.1 y).1 b5).trans (h.e r o hl y)) (λr hl y hn=>by have:∃i,i<G.n/\Bw i r:=Classical.byContradiction λK=>hn λi c C=>K ⟨i,c,C⟩;obtain⟨i,c,b2⟩:=this;obtain⟨k,m,P,A⟩:=(H i c).2.2.2.1 _ ⟨r,b2,rfl⟩;exact⟨i,k,c,m,P,A⟩)
 have X:=bR b4 λx d=>a3 x d;have a4:∀r,r<7->a.i r=r:=λr y=>by have:=p.d r y;rw[<-this,a.a,this]
 have b0:∀i,i<G.n->Loose fam (a.MS.Mg (l i)) (W i) q:=λi c=>by refine⟨u i c,λr y=>?_,(H i c).1.c,p.c,p.os.symm.trans (H i c).1.os,λf=>?_,?_⟩;show a.i _=r;rw[(H i c).1.d r y];exact a4 r y;show a.j _=f;rw[(H i c).1.g];have:=a.d f;rwa [p.g]at this;show (a.b !=(l i).b)=false;rw[p.b,(H i c).1.b];rfl
 have z:(∀i,i<G.n->¬Bw i gb)/\∀i,i<G.n->¬Bw i pb:=⟨λi c=>(a1 i c).1,λi c=>(a1 i c).2⟩;have L:=g.net.a.f;have I:=g.d.f;have Z:=λi c=>Cl.a (b0 i c) (H i c).2.1 X;have v:∀i x,i<G.n->(∃r,7<=r/\r<(W i).heap.size/\(a.MS.Mg (l i)).f r=x)->Os i (a.f x):=λi x c⟨r,m,P,A⟩=>by
  have h4:a.f x=(l i).f r:=by rw[<-A];exact a.c _
  rw[h4];exact(H i c).2.2.1 r m P
 refine⟨q,a,λi x=>∃r,7<=r/\r<(W i).heap.size/\(a.MS.Mg (l i)).f r=x,p,a8,X,a7,s,hK,λr m P=>?_,⟨⟨(hK gb g.g.1 L z.1).trans g.net.a,by show World.ownsRow q 0 111 2 _ G.a.length (ar G.a);rw[a6];exact World.ownsRow_nil _ _ _ _,λx d=>by cases d⟩,(hK pb g.g.2 I z.2).trans g.d,λi c=>?_,λi j x c D d hy=>?_,λi x c d h=>h,λi c=>⟨λd=>?_,λd=>?_⟩,⟨id,id⟩,g.t,λx d=>d.elim,Z,g.g,λx d=>d.elim⟩,λi x c d=>?_⟩;rcases R r m P with A|⟨i,k,c,A,h4,h5⟩;exact .inl A;exact .inr ⟨i,c,by rw[<-h5];exact(H i c).2.2.1 k A h4⟩
 .have a5:i<G.n:=c;obtain⟨-,-,-,-,C,M,hp⟩:=H i a5;have a9:bl i<w:=(g.c i a5).f;have:=hp.c (ρ:=a.MS.Mg (l i)) (w2:=q) λr o y ho=>u i c r o (M r y).1 ho;have e:(a.MS.Mg (l i)).f (b i)=bl i:=by show a.i ((l i).f (b i))=bl i;rw[C,<-s _ a9,a.a]
  rw[e]at this;exact this.e λx d=>⟨(a.MS.Mg (l i)).i x,(M _ d).1,(M _ d).2,(a.MS.Mg (l i)).c x⟩
 exact Classical.byContradiction λN=>Q i j c D N _ (v i x c d) (v j x D hy);have m:=v i gb c d;rw[s gb L]at m;exact O i c gb g.g.1 L z.1 m;have m:=v i pb c d;rw[s pb I]at m;exact O i c pb g.g.2 I z.2 m;rcases Fs x w.heap.size with S|Y;left;have m:=v i x c d;rw[s x S]at m;have b3:=((Z i c).d x d).1;apply Classical.byContradiction;intro K;by_cases B:∃j,j<G.n/\Bw j x;obtain⟨j,D,U⟩:=B;have N:i≠j:=λe=>K (e▸U);obtain⟨r,P,A,h4⟩:=(H j D).2.2.2.1 _ ⟨x,U,rfl⟩;have h5:=(H j D).2.2.1 r P A;rw[h4]at h5;exact Q i j c D N _ m h5;exact O i c x b3 S (λj D C=>B ⟨j,D,C⟩) m;exact .inr Y
end
section
open Go.RowKit
open Go.Cr Go.Conc
open Go.Pm (Perm Loose Among Sup Ext Rely)
open Md (PS Grp Book GW carried)
structure Tq(w:Δ)(FG:ϑ)(gb pb:Nat)(bl:Nat->Nat)(Fp:Nat->ϑ)(G:Grp)(nv:Θ):Prop where
 f:GQ w gb pb bl Fp (λ_=>False) {G with a:=[]} (sN)
 e:∀x,Wh gb pb G.n Fp (λ_=>False) x->FG x
 a:w.ownsRow 0 111 2 nv G.a.length (ar G.a)
 b:∀g,nv.ownBlock=some g->FG g/\7<=g/\g≠gb/\g≠pb/\∀i,i<G.n->¬Fp i g
section
variable {w w':Δ}{FG:ϑ}{gb pb:Nat}{bl:Nat->Nat}{Fp:Nat->ϑ}{G:Grp}{nv:Θ}
def Cp(g:GY w FG gb G):∃l p o m,ϖ 59 #[pT gb 1] w λe n=>ϱ e m/\n.heap.size=w/\(∀k,k≠gb->n.heap[k]?=w.heap[k]?)/\Tq n FG gb l p o G m:=by obtain⟨l,p,o,t,m,g,q⟩:=g;refine⟨l,p,o,m,(qR g.net).mono ?_⟩;rintro e n⟨rfl,rfl⟩;have d:=(ej.d gb w).a 2 (Value.slice none 0 0);have j:=λk s=>d.block k s;have c:=d.size;have r:=λi x b a=>j x λe=>(g.a i b).1 (e▸a);refine⟨rfl,c,j,⟨⟨⟨g.net.a.e 2 _,World.ownsRow_nil _ _ _ _,λx a=>by cases a⟩,(j l λe=>g.t e.symm).trans g.d,λi b=>(g.c i b).a (λx a _=>r i x b a) (by rw[c];exact yb _),g.dis,λi x b a h=>h,g.a,⟨id,id⟩,g.t,λx a=>a.elim,λi b=>(g.q i b).c (λx a=>r i x b a) (λx a=>j x λe=>by have:=g.g.1;omega) (by rw[c];exact yb _),g.g,λx a=>a.elim⟩,λx a=>q x ?_,?_,λx a=>?_⟩⟩;rcases a with h|h|h|h;exact .inl h;exact .inr (.inl h);exact h.elim;exact .inr (.inr (.inr h));exact aj g.net.b.d λx a=>j x λe=>g.r.1 (e▸g.net.b.c x a);have f:=g.net.b.c x a;exact⟨q x (.inr (.inr (.inl f))),g.u x f,λe=>g.r.1 (e▸f),λe=>g.r.2 (e▸f),λi b h=>g.e i x b h f⟩
def Tq.d(t:Tq w FG gb pb bl Fp G nv)(c:∀k,k<w.heap.size->w'.heap[k]?=w.heap[k]?)(b:w.heap.size<=w'):Tq w' FG gb pb bl Fp G nv:=
 ⟨t.f.k (λx a=>c x (t.f.z a).2) (λx a=>c x (yg a t.f.lw)) b,t.e,aj t.a λx a=>c x (t.a.lt x a).2,t.b⟩
def E7(t:Tq w FG gb pb bl Fp G nv)(h:G.n<=6)(l:G.a.length<=1000000)(d:∀x∈G.a,∃j:Nat,j<G.n/\x.1=(j:Int)):ϖ 61 #[nv,.int .i64 G.n] w λe a=>ϱ e (sT w G.n G.n)/\(∀k,k<w.heap.size->a.heap[k]?=w.heap[k]?)/\w.heap.size<=a/\a.os=w.os/\∃p,CF a w w G.n p (eC G.a):=by obtain⟨o,m,f⟩:=bG t.a;have g:eB w (λ_=>True) 111 2 _ _ _:=⟨f▸t.a,λ_ _=>trivial⟩;rw[f];refine(Co G.n h o m g l d).m ?_;rintro a⟨c,b⟩;exact⟨rfl,λk i=>c.block k i,c.size,c.os,b⟩
def qk(a:List bC)(j:Nat):(eC a j).map Value.string=(Grp.MT a j).map (λs=>Value.string ⟨s.toArray⟩)/\(eC a j).length=(Grp.MT a j).length:=by
 have e:(λx:bC=>decide (x.1=(j:Int)))=λc=>c.1==(j:Int):=by funext x;rw[Bool.eq_iff_iff];simp
 unfold eC Grp.MT;rw[e];refine⟨?_,ς⟩;rw[AD,AD];refine GU λx _=>?_;simp
end
def Mw(c:gN)(P0 G0 PB:Nat)(BL:Nat->Nat)(J:zV)(L:List (Nat×Obj))(O:ϑ)(wa:Δ):Prop:=
 ∃(π:Perm)(w:Δ)(pp gb pb:Nat)(bl:Nat->Nat)(Fp:Nat->ϑ)(Fn:ϑ)(G:Grp)(cr:Book)(nv:Θ),Gh π w wa O/\lK L O π w.heap.size wa/\π.f pp=P0/\π.f gb=G0/\π.f pb=PB/\(∀i,i<G.n->π.f (bl i)=BL i)/\7<=pp/\CC w pp gb c.n c.d c.b cr c.a/\¬Wh gb pb G.n Fp Fn pp/\GQ w gb pb bl Fp Fn G nv/\G.n=c.n/\J G cr
section
variable {c:gN}{P0 G0 PB:Nat}{BL:Nat->Nat}{J J':zV}{L:List (Nat×Obj)}{O K:ϑ}{A:Ξ}{X:Event->Prop}{Stop:(ϑ)->Goroutine->Ξ}{wa waB:Δ}
def Mw.rely(h:Mw c P0 G0 PB BL J L O wa)(i:∀b,b<2->K b)(a:Rely O K A wa waB):Mw c P0 G0 PB BL J L O waB:=by obtain⟨p,w,k,f,e,o,n,q,G,m,g,l,j,d⟩:=h;exact⟨p,w,k,f,e,o,n,q,G,m,g,l.rely i a,j.rely a,d⟩
def Mw.d(h:Mw c P0 G0 PB BL J L O wa)(t:∀G a,J G a->J' G a):Mw c P0 G0 PB BL J' L O wa:=by obtain⟨x,w,l,r,f,o,m,p,G,a,s,n,u,q,j,y,i,v,k,g,e,b,d⟩:=h;exact⟨x,w,l,r,f,o,m,p,G,a,s,n,u,q,j,y,i,v,k,g,e,b,t _ _ d⟩
def Mw.a(h:Mw c P0 G0 PB BL J L O wa):O G0/\O PB/\ε wa G0 0 (sT PB c.n c.n)/\∀i,i<c.n->ε wa PB i (.pointer (some ⟨BL i,0,none⟩)):=by obtain⟨t,w,p,l,k,s,q,u,G,r,m,d,o,-,rfl,rfl,a,-,-,-,g,e,-⟩:=h;have f:=d.b g.g.1 (g.net.a.z 0);refine⟨f.2,d.c k g.g.2 g.d.f,by rw[<-e];simpa[Addr.pm]using f.1,λi b=>?_⟩;rw[<-e]at b;have:=(d.b g.g.2 (g.b b)).1;simp only[Pm.bh,yp,Addr.pm,a i b]at this;exact this
def Mw.b(h:Mw c P0 G0 PB BL J L O wa)(hK:∀b,b<2->K b){k:Nat}(hk:k<c.n)(hl:∀G s,J G s->Md.Wf (G.b k)/\G.a.length<=4000/\(G.b k).e.length<=60000+6*(1+(G.b k).o.length)){Z:Frame}{o:List Frame}(U:∀M m,Mw c P0 G0 PB BL (λG s=>∃G1,J G1 s/\G=G1.MB k) L M m->Pm.Way prog true K A X Stop M (Conc.G (Z.finish (.tuple #[])) o) m):Pm.Way prog true K A X Stop O (Conc.G (Frame.enter prog 62 #[pT G0 0,.pointer (some ⟨BL k,0,none⟩)] .normal) (Z::o)) wa:=by
 obtain⟨π,w,H,r,E,q,I,Q,G,s,nv,h1,h2,rfl,rfl,rfl,y,h5,W,C,g,N,V⟩:=h;have D:=g.net.a.f;have z:=af.f W;have f:k<G.n:=by rw[N];exact hk
 have p:∀i,i<G.n->7<=q i/\q i<w:=λi t=>⟨g.lp t (g.c i t).d,(g.c i t).f⟩;obtain⟨wf,a3,a2⟩:=hl G s V;have a0:=g.v f wf;refine fE hK h1 h2 rfl rfl (args:=#[pT r 0,.pointer (some ⟨q k,0,none⟩)]) (λv Y=>?_) (by simp[Addr.pm,y k f]) (R:=λe u=>ϱ e (.tuple #[])/\(∀x,x<w.heap.size->¬Wh r E G.n I Q x->u.heap[x]?=w.heap[x]?)/\∃d j,GQ u r E q I d (G.MB k) j/\∀x,d x->aY Q w x) (λτ _=>?_) (λe u h=>⟨_,h.1⟩) λv u S m M hR hg hL a1 a _=>?_;simp at Y;rcases Y with rfl|rfl;exact jY g.g.1 D;exact jY (p k f).1 (p k f).2;have F:GQ (w.tp τ) r E q I Q G nv:=g.k (λ_ _=>rfl) (λ_ _=>rfl) (yb _);refine(F.p f ω).m ?_;rintro u⟨T,d,j,F,R⟩;exact⟨rfl,λx l N=>T.block x l N,d,j,F,R⟩;obtain⟨e,B,d,j,F,R⟩:=hR;injection e with e;subst e;refine U M m ⟨S,u,H,r,E,q,I,d,G.MB k,s,j,hg,hL,a H z,a r D,a E g.d.f,λi t=>(a _ (p i t).2).trans (y i t),h5,(B H z C).trans W,λl=>?_,F,N,G,V,rfl⟩;rcases l with l|l|l|l;exact C (.inl l);exact C (.inr (.inl l));rcases R H l with h|h;exact C (.inr (.inr (.inl h)));omega;exact C (.inr (.inr (.inr l)))
def Mw.e(h:Mw c P0 G0 PB BL J L O wa):Mq c P0 G0 J L O wa:=by obtain⟨r,w,l,e,d,q,n,t,G,o,f,p,k,b,j,-,-,s,i,m,g,-,a⟩:=h;exact⟨r,w,l,e,_,G,o,p,k,b,j,s,i,m,⟨d,q,n,t,f,g,λ_ h=>h⟩,a⟩
end
open Go.Pm (Ev)
section
def pZ:Code->Code
 |.seq _ (.seq _ (.seq _ (.seq (.seq _ (.block _ (.loop c))) _)))=>c
 |_=>.skip
def wZ:Code->Code
 |.seq _ (.seq _ (.seq _ (.seq _ t)))=>t
 |_=>.skip
noncomputable def Cd:Code:=pZ (f28.body.getD .skip)
noncomputable def IV:Code:=wZ (f28.body.getD .skip)
def zA{P:Program}{e:Bool}{K:ϑ}{A:Ξ}{X:Event->Prop}{d:(ϑ)->Goroutine->Ξ}{O:ϑ}{w:Δ}{b:Frame}{a:Act}{f:List Item}{c:Frame}{i:List Frame}{j:Func}{t:Nat}{v:Θ}(m:b.kind=.normal)(l:a.defers=[])(k:P.funcs[b.fn]?=some j)(g:j.results=#[.tmp t])(n:a.tmps.getD t undef=v)(h:Pm.Way P e K A X d O (G (c.finish v) i) w):Pm.Way P e K A X d O (G {b.at a f with mode:=.returning} (c::i)) w:=
 au rfl (λw=>by rw[stepG_leave m l k ((results_tmp g _ P w).trans (by rw[n])) (events_results_tmp g _ _)]) h
variable {c:gN}{P0 G0 PB m c3:Nat}{a3:Option Addr}{BL:Nat->Nat}{J:zV}{L:List (Nat×Obj)}{K:ϑ}{A:Ξ}{X:Event->Prop}{Stop:(ϑ)->Goroutine->Ξ}
def wM(hn:c.n<=6)(hK:∀b,b<2->K b)(hJ:∀G f,J G f->GW G/\G.n=c.n){cf:Frame}{e:List Frame}(hk:∀W v,Mq c P0 G0 (λG f=>∃a,J a f/\G=a.round) L W v->Pm.Way prog true K A X Stop W (G (cf.finish (.int .i64 m)) e) v):∀(r k:Nat),k+r=c.n->∀(O:ϑ)(M:Δ)(U T v4 Q S v7 V R F s y w j z i o D H q E h l u t B p x g C:Θ),Mw c P0 G0 PB BL (λG f=>∃a,J a f/\G=carried a.MU k) L O M->
   Pm.Way prog true K A X Stop O (G ((base 28).at ⟨#[pT G0 0,U,T,.slice a3 m c3,v4,Q,S,v7,V,R,F,s,y,w,j,z,i,o,D,H,q,E,sT PB c.n c.n,.int .i64 c.n,.int .i64 k,h,l,u,t,B,p,x,g,C],[]⟩ [.code Cd,.inLoop Cd,.inBlock 0,.code IV]) (cf::e)) M:=by
 intro r;induction r with
 |zero=>
  intro k a0 O M U T v4 Q S v7 V R F s y w j z i o D H q E h l u t B p x g C hI;obtain rfl:k=c.n:=ω;simp only[Cd,IV,pZ,wZ,f28,yv];repeat refine wN ?_
  refine wR ?_;refine wV (.bool false) ?_;walk_nrm;repeat refine wN ?_
  refine wF ?_;refine au rfl (λ_=>stepG_exit rfl) ?_;repeat refine wN ?_
  refine wR ?_;refine wV (.slice a3 m c3) ?_;iterate 2 (walk_nrm;refine wV (.int .i64 m) ?_)
  walk_nrm;repeat refine wN ?_
  refine au rfl (λ_=>stepG_ret') ?_;refine zA rfl rfl rfl rfl rfl (hk O M (hI.e.b λG f hq=>?_));obtain⟨a,Z,rfl⟩:=hq;refine⟨a,Z,?_⟩;unfold Grp.round carried;rw[(hJ a f Z).2]
 |succ r ih=>
  intro k a0 O M U T v4 Q S v7 V R F s y w j z i o D H q E h l u t B p x g C hI;have d:k<c.n:=ω;have a5:k<c.n:=ω;have a6:0<=k:=ω;have a2:IntKind.i64.wrap ((k:Int)+1)=((k+1:Nat):Int):=by rw[IntKind.wrap_i64];omega
  obtain⟨LP,I⟩:∃LP,LP=Cd:=⟨_,rfl⟩;obtain⟨TL,P⟩:∃TL,TL=IV:=⟨_,rfl⟩;rw[<-I,<-P];rw[<-I,<-P]at ih;suffices hX:∀Y,Y=Cd->Pm.Way prog true K A X Stop O (G ((base 28).at ⟨#[pT G0 0,U,T,.slice a3 m c3,v4,Q,S,v7,V,R,F,s,y,w,j,z,i,o,D,H,q,E,sT PB c.n c.n,.int .i64 c.n,.int .i64 k,h,l,u,t,B,p,x,g,C],[]⟩ [.code Y,.inLoop LP,.inBlock 0,.code TL]) (cf::e)) M from hX LP I;intro Y hY;simp only[Cd,pZ,f28,yv]at hY;subst hY;repeat refine wN ?_
  refine wR ?_;refine wV (.bool true) ?_;walk_nrm;repeat refine wN ?_
  refine wT ?_;repeat refine wN ?_
  refine wR ?_;refine wV (pT PB k) ?_;walk_nrm;refine ag (v:=.pointer (some ⟨BL k,0,none⟩)) rfl rfl θ (λa4 N=>?_) ?_
  .obtain⟨-,sB,-,cB⟩:=(hI.rely hK N).a;have c5:=cB k d;exact⟨by go_simp,by simp[go_sem, *];exact .inl sB⟩
  walk_nrm;refine wV (.pointer (some ⟨BL k,0,none⟩)) ?_;walk_nrm;repeat refine wN ?_
  refine wR ?_;refine wV (pT G0 0) ?_;walk_nrm;refine wV (.pointer (some ⟨BL k,0,none⟩)) ?_;walk_nrm;refine dS rfl rfl θ rfl (fn:=f62) rfl κ rfl ?_;walk_nrm;refine Mw.b hI hK d (λG f hq=>?_) λW v a1=>?_;obtain⟨a,Z,rfl⟩:=hq;obtain⟨gw,e1⟩:=hJ a f Z;obtain⟨r1,r2⟩:=gw.round (i:=k) (by rw[e1];exact d);have h3:=(Md.ti a.MU (oI _) k).1;have h4:a.MU.c<=4000:=gw.lim;rw[Md.lj,if_neg ω];exact⟨r1,ω,r2⟩;rw[Frame.finish_at];walk_nrm;repeat refine wN ?_
  refine wR ?_;iterate 2 (refine wV (.int .i64 ((k+1:Nat):Int)) ?_;walk_nrm)
  repeat refine wN ?_
  refine au rfl (λ_=>stepG_inLoop) ?_;apply ih (k+1) ω W v;exact a1.d λG f⟨a,⟨G2,h2,e2⟩,e1⟩=>⟨G2,h2,by rw[e1,e2,Md.lU]⟩
end
open Go.Pm (loose_live)
variable {Wg bx:Nat}
section
structure I9(c:gN)(P0 G0 gb lb pb base pp:Nat)(L:List (Nat×Obj))(bl:Nat->Nat)(Fp:Nat->ϑ)(G:Grp)(cr:Book)(vs:Array Θ)(π:Perm)(w0 w wa:Δ)(O:ϑ):Prop where
 e:Gh π w wa O
 g:lK L O π w.heap.size wa
 v:π.f pp=P0
 u:π.f gb=G0
 p:7<=pp
 q:Pm.Shut fam w0
 size:w0.heap.size=base
 i:∀k,k<base->w.heap[k]?=w0.heap[k]?
 r:base<=w
 os:w.os=w0.os
 t:CC w0 pp gb c.n c.d c.b cr c.a
 d:¬Wh gb pb G.n Fp (λ_=>False) pp
 a:GQ w0 gb pb bl Fp (λ_=>False) {G with a:=[]} (sN)
 b:CF w base lb G.n vs (eC G.a)
 o:GW G
 s:G.n=c.n
 y:∀x∈G.a,x.2.size<=1000000
section
variable {c:gN}{P0 G0 gb lb pb bs pp:Nat}{L:List (Nat×Obj)}{bl:Nat->Nat}{Fp:Nat->ϑ}{G:Grp}{cr:Book}{vs:Array Θ}{π:Perm}{w0 w wa wa':Δ}{O K:ϑ}
def I9.h(a:I9 c P0 G0 gb lb pb bs pp L bl Fp G cr vs π w0 w wa O):bs<=lb/\lb<w/\7<=bs:=by refine⟨a.b.f,a.b.a.f,?_⟩;have e:=a.a.g.1;have d:=a.a.net.a.f;have b:=a.size;omega
def I9.j(a:I9 c P0 G0 gb lb pb bs pp L bl Fp G cr vs π w0 w wa O){i:Nat}(d:i<G.n):∃v,vs[i]?=some v/\∀x,Fq (Fp i) v x->7<=x/\x<w.heap.size/\x≠gb/\x≠pb/\x≠lb/\(x<bs->Fp i x)/\(Fp i x->x<bs):=by
 obtain⟨v,j⟩:∃v,vs[i]?=some v:=⟨_,yl (by rw[a.b.size];exact d)⟩;obtain⟨r,t,s⟩:=a.h;have k:=a.r;have q:=a.a.net.a.f;have l:=a.a.d.f;have o:=a.size;have f:∀x,Fp i x->x<bs:=λx b=>by have:=a.a.s d b;omega
 refine⟨v,j,λx b=>?_⟩;rcases b with b|b;have p:=f x b;exact⟨((a.a.q i d).d x b).1,ω,λe=>(a.a.a i d).1 (e▸b),λe=>(a.a.a i d).2 (e▸b),ω,λ_=>b,f x⟩;have g:=a.b.b i v d j;obtain⟨p,m⟩:=g.lt x b;exact⟨ω,m,ω,ω,λe=>lD g a.b.a (by rw[b,e]),λh=>ω,f x⟩
def HU(Fp:Nat->ϑ)(vs:Array Θ)(π:Perm)(i:Nat):ϑ:=λx=>∃r,Fq (Fp i) (vs.getD i undef) r/\π.f r=x
def I9.start(a:I9 c P0 G0 gb lb pb bs pp L bl Fp G cr vs π w0 w wa O)(C:qp O K wa):Go.Cr.qY O K (π.f gb) (π.f pb) (π.f lb) G.n G.n G.n (λi=>π.f (bl i)) (λi=>(vs.getD i undef).pm π) (HU Fp vs π) wa:=by
 obtain⟨V,T,U⟩:=a.h;have S:=a.a.net.a.f;have I:=a.a.d.f;have N:=a.size;have H:=a.r;have B:af w gb 97 _:=(a.i gb ω).trans a.a.net.a;have D:af w pb 102 _:=(a.i pb ω).trans a.a.d;have o:∀r,7<=r->r<w.heap.size->O (π.f r):=λr t x=>a.e.c r t x;have p:∀i v,vs[i]?=some v->vs.getD i undef=v:=λi v h=>by rw[ya,h];rfl
 refine⟨o gb a.a.g.1 ω,o pb a.a.g.2 ω,o lb ω T,a.o.b,⟨λe=>?_,λe=>?_⟩,?_,λi m=>?_,λi m=>?_,λi m b E=>?_,λi j m z y b E A=>?_,C.c,C.a,C.ok⟩;have:=π.Nd e;omega;have:=π.Nd e;omega;have:=a.e.b a.a.g.1 (B.a 0 _ rfl);simpa[Addr.pm]using this.1;have:=a.e.b a.a.g.2 (D.a i (.pointer (some ⟨bl i,0,none⟩)) (by simp[m]));simpa[Addr.pm]using this.1;obtain⟨v,s,-⟩:=a.j m;rw[p i v s];exact(a.e.b ω (a.b.a.a i v s)).1;obtain⟨v,s,g⟩:=a.j m;obtain⟨r,k,rfl⟩:=E;rw[p i v s]at k;obtain⟨t,x,P,M,R,-⟩:=g r k;exact⟨o r t x,λe=>P (π.Nd e),λe=>M (π.Nd e),λe=>R (π.Nd e)⟩;obtain⟨v,s,g⟩:=a.j m;obtain⟨u,F,q⟩:=a.j z;obtain⟨r,k,rfl⟩:=E;obtain⟨Q,d,e⟩:=A;obtain rfl:=π.Nd e;rw[p i v s]at k;rw[p j u F]at d;have t:=g _ k;have x:=q _ d;by_cases l:Q<bs;exact y (a.a.dis i j _ m z (t.2.2.2.2.2.1 l) (x.2.2.2.2.2.1 l));rcases k with k|k;exact l (t.2.2.2.2.2.2 k);rcases d with d|d;exact l (x.2.2.2.2.2.2 d);exact y (a.b.dis i j v u _ m z s F k d)
end
variable {c:gN}{P0 G0 gb lb pb bs pp:Nat}{L:List (Nat×Obj)}{bl:Nat->Nat}{Fp:Nat->ϑ}{G:Grp}{cr:Book}{vs:Array Θ}{π:Perm}{w0 w wa wa':Δ}{O K:ϑ}
def Lr(bl:Nat->Nat)(Fp:Nat->ϑ)(G:Grp)(vs:Array Θ)(π:Perm)(k:Nat):bE:=KU (π.f (bl k)) ((G.b k).Nc (Grp.MT G.a k)) (HU Fp vs π k)
def I9.l(a:I9 c P0 G0 gb lb pb bs pp L bl Fp G cr vs π w0 w wa O)(W:qp O K wa)(S:∀b,b<2->K b)(C:wa.heap.size<=Wg){k:Nat}(m:k<G.n):zE K (π.f lb) G.n G.n (λi=>π.f (bl i)) (λi=>(vs.getD i undef).pm π) (HU Fp vs π) (Lr bl Fp G vs π) wa Wg bx k:=by
 obtain⟨v,D,q⟩:=a.j m;have u:vs.getD k undef=v:=by rw[ya,D];rfl
 have Q:=a.start W;have V:=a.size;have l:∀x,x<w0.heap.size->w.heap[x]?=w0.heap[x]?:=λx o=>a.i x ω;have h:=a.a.q k m;have p:w0.heap.size<=w:=by have:=a.r;omega
 have H:=h.c (λx o=>l x (h.j o)) (λx o=>l x (yg o h.f)) p;have hp:=(a.a.c k m).a (λx _ o=>l x o) p;have d:=a.b.b k v m D;rw[(qk G.a k).1,(qk G.a k).2]at d;have F:(Grp.MT G.a k).length<=40000:=by have z:=Md.rG G.a k;have B:=a.o.net;have U:=a.o.lim;omega
 have I:∀s∈Grp.MT G.a k,s.length<=140737488351232:=λs Y=>by obtain⟨x,o,rfl⟩:=yW.1 Y;have z:=a.y x (yM.1 o).1;have B:x.2.data.toList.length=x.2.size:=rfl;omega
 refine CR m C (λb t=>Q.c b (Q.f k m b t).1) (λO' w1 w2 z B U h4=>KU.a O' w1 w2 z B U h4) λR A y hR j M E=>?_;have:=GN (A:=A) a.e.a hp H (a.o.a k m) (a.o.snt k m) F I d a.h.2.2 (λg P e fz N Z=>a.b.flat k v g P e fz m D N Z) (λg N T=>by have z:=(q g (.inl T)).2.2.2.2.2.2 T;have B:=(d.lt g N).1;omega) (λb t=>hR b (S b t)) (leafLaw.a wa y (λb t=>j b (.inr (S b t))) a.e.e) (λr X=>j _ (.inl ⟨r,by rw[u];exact X,rfl⟩)) M E
 unfold Lr HU;simp only[u];exact this
def I9.m(a:I9 c P0 G0 gb lb pb bs pp L bl Fp G cr vs π w0 w wa O)(ho:qp O K wa)(hK:∀b,b<2->K b){T Kn:ϑ}{F:Nat->ϑ}(j:At O K (π.f lb) G.n G.n (HU Fp vs π) wa Wg bx G.n T Kn wa')(hq:∀i,i<G.n->Lr bl Fp G vs π i (F i) wa')(R:∀i,i<G.n->∀b,F i b->¬T b/\¬Kn b/\b<wa'.heap.size)(U:∀i k,i<G.n->k<G.n->i≠k->∀b,F i b->¬F k b):∃O':ϑ,(∀b,O' b->T b\/∃i,i<G.n/\F i b)/\qp O' (λb=>b<2) wa'/\Mw c P0 G0 (π.f pb) (λi=>π.f (bl i)) (λG' Z=>G'=G.MU/\Z=cr) L O' wa':=by
 obtain⟨l1,l2,l3⟩:=a.h;have a6:=a.size;have a7:=a.r;have hS:=a.start ho;have S:=leafLaw.a wa wa' (λb B=>j.f b (hK b B)) a.e.e;have a4:Loose fam π w0 wa:=⟨λr o hl M=>a.e.a.e r o hl ((a.i r (by have:=(yk.1 M).1;omega)).trans M),a.e.a.d,by show 7<=w0.heap.size;omega,a.e.a.a,by rw[a.e.a.os];exact a.os,a.e.a.g,a.e.a.b⟩;have nb:∀r,(∀i,i<G.n->¬Fq (Fp i) (vs.getD i undef) r)->∀i,i<G.n->¬HU Fp vs π i (π.f r):=λr M i p⟨r',d,l⟩=>M i p (π.Nd l▸d);have N:∀r,7<=r->r<w0.heap.size->O (π.f r):=λr d l=>a.e.c r d ω;have V:∀r,r<w0.heap.size->π.f r≠π.f lb:=λr M e=>by have:=π.Nd e;omega
 have Q:=λr d l s=>j.h _ (N r d l) (nb r s) (V r l);have a5:∀i,i<G.n->¬Fq (Fp i) (vs.getD i undef) gb/\¬Fq (Fp i) (vs.getD i undef) pb:=λi p=>by
  obtain⟨v,H,m⟩:=a.j p;have y:vs.getD i undef=v:=by rw[ya,H];rfl
  rw[y];exact⟨λh=>(m _ h).2.2.1 rfl,λh=>(m _ h).2.2.2.1 rfl⟩
 obtain⟨w',D,a0,z,X,a1,a8,u,a3,m,g',W⟩:=E5 a4 a.q S a.a rfl a5 j.size (λr d l s=>j.d _ (N r d l) (nb r s)) hq U λi p r d l s h4=>(R i p _ h4).1 (Q r d l s);have C:=af.f a.t;have P:∀i,i<G.n->¬Fq (Fp i) (vs.getD i undef) pp:=λi p h=>by
  obtain⟨v,H,A⟩:=a.j p;have y:vs.getD i undef=v:=by rw[ya,H];rfl
  rw[y]at h;exact a.d (.inr (.inr (.inr ⟨i,p,(A pp h).2.2.2.2.2.1 ω⟩)))
 have a2:=a.a.net.a.f;have E:=a.a.d.f;have q:∀x∈L,T x.1/\x.1<wa.heap.size/\wa'.heap[x.1]?=some x.2/\∀r,7<=r->r<w.heap.size->π.f r≠x.1:=λx t=>by
  obtain⟨z1,z2,z3⟩:=a.g x t;have I:∀i,i<G.n->¬HU Fp vs π i x.1:=λi p⟨r,d,l⟩=>by
   obtain⟨v,H,A⟩:=a.j p;have y:vs.getD i undef=v:=by rw[ya,H];rfl
   rw[y]at d;exact z3 r (A r d).1 (A r d).2.1 l
  exact⟨j.h _ z1 I λe=>z3 lb ω l2 e.symm,(yk.1 z2).1,(j.d _ z1 I).trans z2,z3⟩
 refine⟨λb=>(∃r,7<=r/\r<w'.heap.size/\D.f r=b)\/∃x∈L,x.1=b,λb B=>?_,⟨λb B=>?_,λb B=>?_,λb B Y=>?_⟩,⟨D,w',pp,gb,pb,bl,a0,λ_=>False,G.MU,cr,_,⟨z,X,a1,S,λr d l=>.inl ⟨r,d,l,rfl⟩⟩,λx t=>?_,(u pp C).trans a.v,(u gb a2).trans a.u,u pb E,λi p=>?_,a.p,(a3 pp a.p C P).trans a.t,λt=>?_,g',a.s,rfl,rfl⟩⟩
 .rcases B with ⟨r,d,l,rfl⟩|⟨x,t,rfl⟩;rcases m r d l with ⟨s,h4⟩|s;rw[u r s];exact .inl (Q r d s h4);exact .inr s;exact .inl (q x t).1
 rcases B with ⟨r,d,l,rfl⟩|⟨x,t,rfl⟩;exact z.i.k l;exact yg (q x t).2.1 j.size;have:=z.a;have a9:7<=wa'.heap.size:=this;omega;rcases B with ⟨r,d,l,rfl⟩|⟨x,t,rfl⟩;have:7<=D.f r:=loose_live z d;omega;exact ho.ok _ (a.g x t).1 (hK _ Y);refine⟨.inr ⟨x,t,rfl⟩,(q x t).2.2.1,λr d l e=>?_⟩;rcases m r d l with ⟨s,-⟩|⟨i,p,s⟩;rw[u r s]at e;exact(q x t).2.2.2 r d ω e;rw[e]at s;exact(R i p _ s).1 (q x t).1;exact u _ (a.a.c i p).f;rcases t with h|h|h|⟨i,p,h⟩;exact a.d (.inl h);exact a.d (.inr (.inl h));exact h;rcases W i pp p h with d|d;exact P i p d;omega
end
variable {c:gN}{P0 G0:Nat}{L:List (Nat×Obj)}{O K:ϑ}{wa:Δ}{J:zV}{Post:Θ->Ξ}
def KS(c:gN)(P0 G0:Nat)(J:zV)(L:List (Nat×Obj))(Post:Θ->Ξ)(cf:Frame)(rest:List Frame):(ϑ)->Goroutine->Ξ:=λOW g wg=>
 ∃(c':Frame)(gb lb pb bs pp:Nat)(bl:Nat->Nat)(Fp:Nat->ϑ)(G:Grp)(cr:Book)(vs:Array Θ)(π:Perm)(w0 w:Δ),J G cr/\g=Conc.G (Frame.enter prog 60 #[.pointer (some ⟨π.f gb,0,none⟩),.slice (some ⟨π.f lb,0,none⟩) c.n c.n] .normal) (c'::cf::rest)/\I9 c P0 G0 gb lb pb bs pp L bl Fp G cr vs π w0 w wg OW/\
   ∀Wg O' wa',qp O' (λb=>b<2) wa'->Mw c P0 G0 (π.f pb) (λi=>π.f (bl i)) (λG' cr'=>G'=G.MU/\cr'=cr) L O' wa'->aC prog 148 Post Wg [] .free O' (λb=>b<2) (Conc.G (c'.finish (.tuple #[])) (cf::rest)) wa'
def wO(hn:1<=c.n/\c.n<=6)(hK:∀b,b<2->K b)(hJ:∀G M,J G M->GW G/\G.n=c.n/\∀x∈G.a,x.2.size<=1000000/\∃j:Nat,j<G.n/\x.1=(j:Int))(h:Mq c P0 G0 J L O wa)(ho:qp O K wa){r:Nat}{cf:Frame}{o:List Frame}(b6:∀Wg Q H(m:Nat),qp Q (λb=>b<2) H->Mq c P0 G0 (λG' M=>∃F,J F M/\F.a.length=m/\G'=F.round) L Q H->aC prog 148 Post Wg [] .free Q (λb=>b<2) (G (cf.finish (.int .i64 m)) o) H):aC prog 148 Post r [] .free O K (G (Frame.enter prog 28 #[pT G0 0] .normal) (cf::o)) wa:=by
 have a1:Pm.Way prog true K (Al 148 r .free) (XS r .free) (KS c P0 G0 J L Post cf o) O (G (Frame.enter prog 28 #[pT G0 0] .normal) (cf::o)) wa:=by
  obtain⟨U,w,X,l,FG,G,M,h1,h2,h3,rfl,h5,h6,h7,h8,h9⟩:=h;obtain⟨gw,E,W⟩:=hJ G M h9;have R:=h8.f;have a9:=af.f h6;rw[enter_at _ func28 rfl];simp;walk_nrm;repeat refine wN ?_
  refine wR ?_;refine wV (.int .i64 0) ?_;walk_nrm;repeat refine wN ?_
  refine wR ?_;iterate 2 (refine wV (.pointer (some ⟨U.f l,0,none⟩)) ?_;walk_nrm)
  refine wV (.pointer (some ⟨U.f l,1,none⟩)) ?_;walk_nrm;refine dS rfl rfl θ rfl rfl κ rfl ?_;walk_nrm;refine fE hK h1 h2 rfl rfl (args:=#[pT l 1]) (λv hv=>?_) (by simp[Addr.pm]) (R:=λe y=>∃T Z Y nv,ϱ e nv/\y.heap.size=w/\(∀k,k≠l->y.heap[k]?=w.heap[k]?)/\Tq y FG l T Z Y G nv) (λτ _=>?_) (λe y h=>?_) λv D a0 d2 O1 c2 a7 d0 _ s _=>?_;simp at hv;subst hv;intro σ a6;have:=a6.1 l R.1 R.2;simp[Addr.pm,this];obtain⟨T,Z,Y,nv,hc⟩:=Cp (h8.d (w':=w.tp τ) rfl);refine hc.m ?_;rintro y⟨ha,hb,hc⟩;exact⟨T,Z,Y,nv,rfl,ha,hb,hc⟩;obtain⟨T,Z,Y,nv,h,-⟩:=h;exact⟨_,h⟩;obtain⟨T,Z,Y,nv,e,V,b3,N⟩:=c2;injection e with e;subst e;obtain⟨ao,vc,hv⟩:=bG N.a;rw[Frame.finish_at,hv];simp;generalize hm:G.a.length=m at hv;generalize c7:ao.map _=a3;walk_nrm;have A:=s l R.2;have S:a0.f X=P0:=(s X a9).trans h3;have b9:X≠l:=λe=>h7 (N.e _ (.inl e));have b1:CC D X l c.n c.d c.b M c.a:=(b3 X b9).trans h6;refine wV (.slice a3 m vc) ?_;walk_nrm;repeat refine wN ?_
  refine wR ?_;refine wV (.pointer (some ⟨U.f l,0,none⟩)) ?_;walk_nrm;refine wV (.slice a3 m vc) ?_;iterate 3 (walk_nrm;refine wV (.pointer (some ⟨U.f l,0,none⟩)) ?_)
  walk_nrm;refine ag (v:=.slice (some ⟨a0.f T,0,none⟩) c.n c.n) rfl rfl θ (λB d=>?_) ?_
  .have c5:=(a7.rely hK d).b N.f.g.1 (N.f.net.a.z 0);simp only[Pm.jA,yp,Addr.pm,A,E]at c5;obtain⟨c5,sG⟩:=c5;exact⟨by go_simp,by simp[go_sem, *];exact .inl sG⟩
  walk_nrm;refine wV (.int .i64 c.n) ?_;walk_nrm;refine dS rfl rfl θ rfl (fn:=f61) rfl κ rfl ?_;walk_nrm;have c0:v.pm a0=.slice a3 m vc:=by rw[hv,<-c7];simp
  refine fE hK a7 d0 (f:=61) rfl rfl (args:=#[v,.int .i64 c.n]) (λu hu=>?_) (by simp[c0]) (R:=λe y=>ϱ e (sT D c.n c.n)/\(∀k,k<D.heap.size->y.heap[k]?=D.heap[k]?)/\D.heap.size<=y/\y.os=D.os/\∃vs,CF y D D G.n vs (eC G.a)) (λτ _=>?_) (λe y h=>⟨_,h.1⟩) λv2 w2 a8 d3 O2 c3 c8 c9 _ t _=>?_
  .simp at hu;rcases hu with rfl|rfl;intro σ a6;rcases N.a.2 with ⟨h0,-⟩|⟨g,d4,d5,h0,-⟩;rw[h0];simp;have:σ.f g=g:=a6.1 g (N.b g (by rw[h0];rfl)).2.1 (N.a.lt g (by rw[h0];rfl)).2;rw[h0];simp[Addr.pm,this];exact eM ς
  have b5:=E7 (N.d (w':=D.tp τ) (λ_ _=>rfl) (yb _)) gw.b (by have h1:=gw.net;have h2:=gw.lim;omega) λx hx=>(W x hx).2;rw[E]at b5;exact b5.mono λe y h=>by rw[E];exact h
  obtain⟨e,b8,b4,b2,vs,b7⟩:=c3;injection e with e;subst e;rw[Frame.finish_at];simp;walk_nrm;refine dS rfl rfl θ rfl (fn:=f60) rfl κ rfl ?_;walk_nrm;have p:a8.f l=U.f l:=(t l (by rw[V];exact R.2)).trans A;refine .stop λB d=>⟨_,l,D,T,D,X,Z,Y,G,M,vs,a8,D,w2,h9,by rw[p],⟨c8.rely hK d,c9.rely d,(t X (by rw[V];exact a9)).trans S,p,h5,a7.d,rfl,b8,b4,b2,b1,λhx=>h7 (N.e _ hx),N.f,b7,gw,E,λx hx=>(W x hx).1⟩,λWg Q H q P=>?_⟩;have a2:∀b,b<2->(λb=>b<2) b:=λb hb=>hb;refine aC.c (lL (Stop:=λz g i=>g=Conc.G (cf.finish (.int .i64 m)) o/\Mq c P0 (U.f l) (λG' C=>∃F,(F=G/\C=M)/\G'=F.round) L z i) ?_ q) λz g i hS=>?_
  .rw[Frame.finish_at];walk_nrm;repeat refine wN ?_
   refine wR ?_;iterate 3 (refine wV (.pointer (some ⟨U.f l,0,none⟩)) ?_;walk_nrm)
   refine ag (v:=.slice (some ⟨a8.f T,0,none⟩) c.n c.n) rfl rfl θ (λB d=>?_) ?_
   .obtain⟨sG,sB,c5,-⟩:=(P.rely a2 d).a;exact⟨by go_simp,by simp[go_sem, *];exact .inl sG⟩
   walk_nrm;refine wV (.int .i64 c.n) ?_;walk_nrm;refine wV (.int .i64 ((0:Nat):Int)) ?_;walk_nrm;repeat refine wN ?_
   refine au rfl (λ_=>stepG_loop) ?_;exact wM (J:=λF C=>F=G/\C=M) (m:=m) (c3:=vc) (a3:=a3) hn.2 a2 (λF C h=>by rw[h.1];exact⟨gw,E⟩) (λO4 w4 h4=>.stop λw5 h5=>⟨rfl,h4.rely a2 h5⟩) c.n 0 ω Q H _ _ _ _ _ _ _ _ _ _ _ _ _ _ _ _ _ _ _ _ _ _ _ _ _ _ _ _ _ (P.d λG' C h=>⟨G,⟨rfl,h.2⟩,h.1⟩)
  obtain⟨⟨rfl,hM⟩,a4⟩:=hS i (.c _ _ _ _);refine b6 Wg z i m a4 (hM.b λG' C h=>?_);obtain⟨F,⟨rfl,rfl⟩,rfl⟩:=h;exact⟨F,h9,hm,rfl⟩
 refine aC.c (lL a1 ho) λz g i hS=>?_;obtain⟨⟨c',l,lb,T,bs,X,Z,Y,G,M,vs,U,w0,w,hj,rfl,a,a5⟩,I⟩:=hS i (.c _ _ _ _);rw[<-a.s];refine ss (a.start I) (QQ:=Lr Z Y G vs U) (λWg bx c6 d6 k hk=>a.l I hK c6 hk) (λk hk Q w B h1 h2 h3 h4=>KU.a Q w B h1 h2 h3 h4) ?_;intro Wg bx On Kn Os y j hq d1 c4;obtain⟨Q,c1,q,P⟩:=a.m I hK j hq d1 c4;exact(a5 Wg Q y q P).more c1 λb hb=>j.s b (hK b hb)
end
section
open Go.RowKit
open Go.Cr Go.Conc
open Go.Pm (Rely Perm Sup Ext Ev)
open Md (PS Grp Book GW RI)
variable {v:Θ}{cf:Frame}
section
def mA{α:Type}{l:α}{L L':List α}(h:l∈L)(e:L=L'):l∈L':=e▸h
def Fc(bx P0 n:Nat)(b:Int):Nat->Θ
 |0=>pT bx 2
 |1=>.int .i64 b
 |2=>pT P0 0
 |3=>pT P0 0
 |4=>pT P0 1
 |5=>pT P0 1
 |_=>.int .i64 n
def Fb(bx P0 G0 q:Nat)(t:ByteArray):Nat->Θ
 |0=>pT P0 0
 |1=>pT P0 0
 |2=>pT P0 0
 |3=>pT G0 0
 |4=>.int .i64 q
 |5=>pT bx 4
 |6=>.string t
 |_=>.string (xU t 16)
def ax{P:Program}{main:Bool}{K:ϑ}{A:Ξ}{X:Event->Prop}{Stop:(ϑ)->Goroutine->Ξ}{O:ϑ}{w:Δ}{b:Frame}{a:Act}{todo:List Item}{c:Frame}{cs:List Frame}{fn:Func}{t:Nat}(hn:b.kind=.normal)(hd:a.defers=[])(hf:P.funcs[b.fn]?=some fn)(hr:fn.results=#[.tmp t])(hv:a.tmps.getD t undef=v)(h:Pm.Way P main K A X Stop O (G (c.finish v) cs) w):Pm.Way P main K A X Stop O (G {b.at a todo with mode:=.returning} (c::cs)) w:=
 au rfl (λw=>by rw[stepG_leave hn hd hf ((results_tmp hr _ P w).trans (by rw[hv])) (events_results_tmp hr _ _)]) h
abbrev aP(kd a b c:Int)(t:ByteArray):Array Θ:=#[.int .i64 kd,.int .i64 a,.int .i64 b,.int .i64 c,.string t]
def AC(bx P0 n:Nat)(a:Int):Nat->Θ
 |0=>pT bx 1
 |1=>.int .i64 a
 |2=>pT P0 0
 |3=>pT P0 0
 |4=>pT P0 1
 |5=>pT P0 1
 |_=>.int .i64 n
def Mq.cell2{c:gN}{P0 G0:Nat}{J:zV}{L:List (Nat×Obj)}{O:ϑ}{wa:Δ}(h:Mq c P0 G0 J L O wa):O P0/\ε wa P0 0 (pT G0 0)/\ε wa P0 1 (.int .i64 c.n):=by obtain⟨G1,cr,-,h⟩:=h.e;exact⟨h.a.1,h.a.2.1,h.a.2.2.1⟩
def Mq.c{c:gN}{P0 G0:Nat}{J:zV}{L:List (Nat×Obj)}{O:ϑ}{wa:Δ}(h:Mq c P0 G0 J L O wa)(j:Nat):wa.frozen? (aT P0 j)=false:=by obtain⟨π,w,pp,gb,FG,G',cr',h1,h2,rfl,rfl,h5,h6,h7⟩:=h;have hwa:=h1.a.e pp _ h5 h6;simp only[Obj.pm]at hwa;exact frozen_of_row wa (π.f pp) j _ _ hwa
def Mq.j{c:gN}{P0 G0:Nat}{L:List (Nat×Obj)}{O:ϑ}{wa:Δ}{G1:Grp}{cr:Book}(h:Mq c P0 G0 (λG' cr'=>G'=G1/\cr'=cr) L O wa){q:Nat}(hq:q<6):Mq c P0 G0 (λG' cr'=>G'=G1/\cr'=cr.put q) L O (wa.setCell ⟨P0,4+q,none⟩ (.bool true)):=by
 obtain⟨π,w,pp,gb,FG,G',cr',h1,h2,rfl,rfl,h5,h6,h7,h8,rfl,rfl⟩:=h;have hb:∀k,k≠pp->(w.setCell ⟨pp,4+q,none⟩ (.bool true)).heap[k]?=w.heap[k]?:=λk hk=>Below.heap_setCell _ _ _ _ hk;have hba:∀k,k≠π.f pp->(wa.setCell ⟨π.f pp,4+q,none⟩ (.bool true)).heap[k]?=wa.heap[k]?:=λk hk=>Below.heap_setCell _ _ _ _ hk;have hA:=aside_setCell w ⟨pp,4+q,none⟩ (.bool true);have hAa:=aside_setCell wa ⟨π.f pp,4+q,none⟩ (.bool true);have hinj:∀r,π.f r=π.f pp->r=pp:=λr e=>by rw[<-π.a r,<-π.a pp,e]
 have hset:=af.e h6 (4+q) (.bool true);have hpl:CC (w.setCell ⟨pp,4+q,none⟩ (.bool true)) pp gb c.n c.d c.b (Md.Book.put cr' q) c.a:=by
  unfold CC;refine Eq.mp (congrArg _ ?_) hset;match q,hq with
  |0,_=>rfl
  |1,_=>rfl
  |2,_=>rfl
  |3,_=>rfl
  |4,_=>rfl
  |5,_=>rfl
 have hwa:=h1.a.e pp _ h5 h6;simp only[Obj.pm]at hwa;have hwa2:=heap_setCell_same wa (π.f pp) (4+q) _ _ (.bool true) hwa;refine⟨π,w.setCell ⟨pp,4+q,none⟩ (.bool true),pp,gb,FG,G',Md.Book.put cr' q,⟨⟨λr o hl hr=>?_,h1.a.d,by rw[hA.size];exact h1.a.c,by rw[hAa.size];exact h1.a.a,by rw[hAa.os,hA.os];exact h1.a.os,h1.a.g,h1.a.b⟩,⟨λσ hσ r o hl hr=>?_⟩,bR h1.f λx hx=>hb x ω,bR h1.e λx hx=>hba x λe=>?_,λr h10 hr=>h1.c r h10 (by rw[hA.size]at hr;exact hr)⟩,λx hx=>?_,rfl,rfl,h5,hpl,h7,?_,rfl,rfl⟩
 .by_cases e:r=pp
  subst e;rw[show (w.setCell ⟨r,4+q,none⟩ (.bool true)).heap[r]?=_ from hset]at hr;injection hr with hr;subst hr;rw[hwa2];simp only[Obj.pm,Array.map_setIfInBounds];rfl;rw[hba _ λe2=>e (hinj r e2)];rw[hb r e]at hr;exact h1.a.e r o hl hr
 rw[hA.size]at hσ;by_cases e:r=pp;subst e;have:=h1.d.b σ hσ r _ hl h6;rw[show (w.setCell ⟨r,4+q,none⟩ (.bool true)).heap[r]?=_ from hset]at hr;injection hr with hr;subst hr;simp only[Obj.pm,Array.map_setIfInBounds,Obj.cells.injEq]at this⊢;refine⟨?_,this.2⟩;rw[this.1];rfl;rw[hb r e]at hr;exact h1.d.b σ hσ r o hl hr;have:π.f x=x:=h1.a.d x (by have:fam.gs+5=7:=rfl;omega);have:=hinj x (this.trans e);omega;obtain⟨z1,z2,z3⟩:=h2 x hx;refine⟨z1,(hba _ λe=>z3 pp h5 (af.f h6) e.symm).trans z2,λr h10 hr=>z3 r h10 (by rw[hA.size]at hr;exact hr)⟩;obtain⟨pb,bl,Fp,Fn,nv,g,hW⟩:=h8;exact⟨pb,bl,Fp,Fn,nv,g.k (λx hx=>hb x λe=>h7 (e▸hW x hx)) (λx hx=>hb x ω) (by rw[hA.size];exact yb _),hW⟩
def kl(S:PS):S.MC=0\/(S.MC=6/\S.f=true)\/(S.MC=7/\S.out=true/\S.f=false):=by unfold PS.MC;cases S.f<;>cases S.out<;>simp
def tS(S:PS){t:ByteArray}(ht:t.size<=16):S.Mf t=0\/S.Mf t=8\/S.Mf t=9\/S.Mf t=10\/(S.Mf t=6/\S.f=true)\/(S.Mf t=7/\S.out=true/\S.f=false):=by unfold PS.Mf;by_cases h:S.MC=0;rw[if_neg (by simpa using h),if_neg ω];split;exact .inr (.inl rfl);split;exact .inr (.inr (.inl rfl));split;exact .inr (.inr (.inr (.inl rfl)));exact .inl rfl;rw[if_pos h];rcases kl S with h1|h1|h1;exact(h h1).elim;exact .inr (.inr (.inr (.inr (.inl h1))));exact .inr (.inr (.inr (.inr (.inr h1))))
abbrev Jr(c:gN):zV:=λG cr=>Md.dY c.a c.n c.d c.b G cr
def td(c:gN):Prop:=c.a=true->∀G cr,Jr c G cr->∀i,i<c.n->(G.b i).out=true->(G.b i).f=true
def K5{c:gN}(hn:1<=c.n/\c.n<=6)(hl:c.b<=4000)(cr:Book):Hm λG=>Jr c G cr where
 gw h:=(h.a hn).b hn.2 hl
 par h hk:=by obtain⟨f,h1,h2,h3⟩:=(h.a hn).d hk;exact⟨f,h1,h2,by rw[(h.a hn).n];exact h3⟩
 deliver k h:=h.deliver k
 drop k h:=h.drop k
 copy k h:=h.copy k
section
variable {c5:gN}{P0 G0:Nat}{J:zV}{L:List (Nat×Obj)}{O K:ϑ}{A:Ξ}{X:Event->Prop}{Stop:(ϑ)->Goroutine->Ξ}{w wa:Δ}{main:Bool}{b:Frame}{a:Act}{k:List Item}{cs:List Frame}{ops:Array Oper}{i:Nat}{rest:List Nat}{o:Oper}
def IW(v:Θ)(h:Pm.Way prog main K A X Stop O (G (b.at (a.put o.dst v) (.inRegion ops rest::k)) cs) w)(ho:ops[i]?=some o:=by exact rfl)(hw:Region.wanted o (yielded ops a.tmps)=true:=by exact rfl)(hk:b.kind≠.early:=by decide)(hr:∀dJ,Rely O K A w dJ->(execOp a.eval o).run prog dJ=.ok (.value v) dJ/\∀e∈(execOp a.eval o).events prog dJ #[],Pm.Ev O K e:=by exact λdJ aJ=>by (obtain⟨sO,sc⟩:=Mq.side (Mq.rely ‹Mq _ _ _ _ _ _ _› ‹∀b,b<2->_› aJ) (yY ..);have d0:=sc 0 _ rfl;have d1:=sc 1 _ rfl;have d2:=sc 2 _ rfl;have d3:=sc 3 _ rfl;have d4:=sc 4 _ rfl;simp only[yf,yd,ye]at d0 d1 d2 d3 d4;exact⟨by go_simp,by (simp[go_sem, *];first|exact .inl sO|exact⟨.inl sO,.inl sO,.inl sO,.inl sO,.inl sO⟩)⟩)):Pm.Way prog main K A X Stop O (G (b.at a (.inRegion ops (i::rest)::k)) cs) w:=ag ho hw hk hr h
def Kj(v:Θ)(h:Pm.Way prog main K A X Stop O (G (b.at (a.put o.dst v) (.inRegion ops rest::k)) cs) w)(ho:ops[i]?=some o:=by exact rfl)(hw:Region.wanted o (yielded ops a.tmps)=true:=by exact rfl)(hk:b.kind≠.early:=by decide)(hr:∀dJ,Rely O K A w dJ->(execOp a.eval o).run prog dJ=.ok (.value v) dJ/\∀e∈(execOp a.eval o).events prog dJ #[],Pm.Ev O K e:=by exact λdJ aJ=>by (obtain⟨sP,c0,c1⟩:=Mq.cell2 (Mq.rely ‹Mq _ _ _ _ _ _ _› ‹∀b,b<2->_› aJ);exact⟨by go_simp,by (simp[go_sem, *];exact .inl sP)⟩)):Pm.Way prog main K A X Stop O (G (b.at a (.inRegion ops (i::rest)::k)) cs) w:=ag ho hw hk hr h
def Mq.h(hn:1<=c5.n/\c5.n<=6)(hl:c5.b<=4000)(h:Mq c5 P0 G0 (Jr c5) L O wa)(hK:∀b,b<2->K b)(kd a b c:Int)(t:ByteArray)(ha:j7 a)(hb:j7 b)(hc:j7 c){rest:List Frame}(hk:∀O' wa',Mq c5 P0 G0 (Jr c5) L O' wa'->Pm.Way prog true K A X Stop O' (G (cf.finish (.bool true)) rest) wa'):Pm.Way prog true K A X Stop O (G (Frame.enter prog 57 #[pT P0 0,.agg (aP kd a b c t)] .normal) (cf::rest)) wa:=by
 refine Mq.f h hK (f:=57) rfl rfl false (args:=[.agg (aP kd a b c t)]) ς (Q:=λv G' cr=>v=.bool true/\Jr c5 G' cr) (λw pp gb FG G1 cr h1 h2 h3 h4=>(Ci (K5 hn hl cr) pp h1 h2 h3 h4 kd a b c t ha hb hc).mono λe w' h=>⟨_,h.1,ς,h.2.imp λG' h=>⟨h.1,rfl,h.2⟩⟩) λv O5 w5 hI5=>?_;obtain rfl:v=.bool true:=by obtain⟨_,_,h,_⟩:=hI5.e;exact h.1
 exact hk O5 w5 (hI5.b λ_ _ h=>h.2)
end
section
variable {O K:ϑ}{A:Ξ}{X:Event->Prop}{Stop:(ϑ)->Goroutine->Ξ}{w:Δ}{main:Bool}{b:Frame}{a:Act}{k:List Item}{cs:List Frame}{ops:Array Oper}{i:Nat}{rest:List Nat}{o:Oper}
def wU(h:Pm.Way prog main K A X Stop O (G (b.at (a.put o.dst undef) (.inRegion ops rest::k)) cs) w)(ho:ops[i]?=some o:=by exact rfl)(hw:Region.wanted o (yielded ops a.tmps)=false:=by exact rfl):Pm.Way prog main K A X Stop O (G (b.at a (.inRegion ops (i::rest)::k)) cs) w:=sr ho hw h
def wW(h:Pm.Way prog main K A X Stop O (G (b.at (a.put o.dst v) (.inRegion ops rest::k)) cs) w)(ho:ops[i]?=some o:=by exact rfl)(hw:Region.wanted o (yielded ops a.tmps)=true:=by exact rfl)(hk:b.kind≠.early:=by decide)(hr:∀dJ,Rely O K A w dJ->(execOp a.eval o).run prog dJ=.ok (.value v) dJ/\∀e∈(execOp a.eval o).events prog dJ #[],Pm.Ev O K e:=by exact λdJ aJ=>⟨by (go_simp;(try with_reducible rfl)),by simp[go_sem, *]⟩):Pm.Way prog main K A X Stop O (G (b.at a (.inRegion ops (i::rest)::k)) cs) w:=ag ho hw hk hr h
def Φ{a':Act}{j:Nat}(x v:Θ)(e:a'.tmps[j]?=some x)(h:Pm.Way prog main K A X Stop O (G (b.at (a'.put o.dst v) (.inRegion ops rest::k)) cs) w)(ho:ops[i]?=some o:=by exact rfl)(hw:Region.wanted o (yielded ops a'.tmps)=true:=by exact rfl)(hk:b.kind≠.early:=by decide)(hr:∀a:Act,a.tmps[j]?=some x->∀dJ,(execOp a.eval o).run prog dJ=.ok (.value v) dJ/\∀e∈(execOp a.eval o).events prog dJ #[],Pm.Ev O K e:=by exact λa e dJ=>⟨by simp[go_sem,Array.getD_eq_getD_getElem?,e],by simp[go_sem,Array.getD_eq_getD_getElem?,e]⟩):Pm.Way prog main K A X Stop O (G (b.at a' (.inRegion ops (i::rest)::k)) cs) w:=ag ho hw hk (λdJ _=>hr _ e dJ) h
end
def ξ{p q:Prop}(H:q)(h:Hid q->p:=by intro H;(first|(refine wU ?_;walk_nrm)|(refine wW ?_;walk_nrm));exact H.out):p:=h H
def ζ{p q:Prop}(H:q)(h:Hid q->p:=by (intro H;repeat first|(refine wU ?_;walk_nrm)|(refine wW ?_;walk_nrm));(repeat refine wN ?_);refine wR ?_;exact H.out):p:=h H
def φ{p q:Prop}{r:Nat}(h0:(0:Int)<=r)(h6:(r:Int)<6)(H:q)(h:Hid q->(0:Int)<=r->(r:Int)<6->p:=by intro H h0 h6;refine ag rfl rfl (by decide) (λdJ aJ=>⟨by (go_simp;(try with_reducible rfl)),by simp[go_sem,events_indexAt_array 42 4 6 _ .i64 _ underlying42 ⟨h0,h6⟩]⟩) ?_;walk_nrm;exact H.out):p:=h H h0 h6
def Mq.z{c5:gN}{P0 G0:Nat}{L:List (Nat×Obj)}{y:Nat×Obj}{O:ϑ}{wa:Δ}{v v':Θ}{Y:Md.Grp}{Z:Md.Book}(h:Mq c5 P0 G0 (λG cr=>v=v'/\G=Y/\cr=Z) (y::L) O wa):v=v'/\Mq c5 P0 G0 (λG cr=>G=Y/\cr=Z) L O wa:=by obtain⟨_,_,⟨rfl,-,-⟩,-⟩:=h.e;exact⟨rfl,(h.b λ_ _ h=>h.2).d λx hx=>y6 _ hx⟩
section
variable {O K:ϑ}{A:Ξ}{X:Event->Prop}{Stop:(ϑ)->Goroutine->Ξ}{w:Δ}{main:Bool}{b:Frame}{a:Act}{k:List Item}{cs:List Frame}{ops:Array Oper}{i:Nat}{rest:List Nat}{o:Oper}{c5:gN}{P0 G0:Nat}{L:List (Nat×Obj)}
def υ(q:Nat){G1:Md.Grp}{cr:Md.Book}{t:Bool}(e:cr q=t)(hI:Mq c5 P0 G0 (λG' cr'=>G'=G1/\cr'=cr) L O w)(hK:∀b,b<2->K b)(hq:q<6)(h:Pm.Way prog main K A X Stop O (G (b.at (a.put o.dst (.bool t)) (.inRegion ops rest::k)) cs) w)(ho:ops[i]?=some o:=by exact rfl)(hw:Region.wanted o (yielded ops a.tmps)=true:=by exact rfl)(hk:b.kind≠.early:=by decide)(hr:∀dJ,O P0->dJ.cell? (aT P0 (4+q))=some (.bool t)->(execOp a.eval o).run prog dJ=.ok (.value (.bool t)) dJ/\∀e∈(execOp a.eval o).events prog dJ #[],Pm.Ev O K e:=by exact λdJ sP c5=>⟨by go_simp,by (simp[go_sem,c5];exact .inl sP)⟩):Pm.Way prog main K A X Stop O (G (b.at a (.inRegion ops (i::rest)::k)) cs) w:=ag ho hw hk (λdJ aJ=>by
 obtain⟨sP,-,-,c4,-⟩:=(hI.rely hK aJ).a;have c5:=c4 q hq;rw[e]at c5;exact hr dJ sP c5) h
def η{t:Bool}{G1:Md.Grp}{cr:Md.Book}(e:c5.a=t)(hI:Mq c5 P0 G0 (λG' cr'=>G'=G1/\cr'=cr) L O w)(hK:∀b,b<2->K b)(h:Pm.Way prog main K A X Stop O (G (b.at (a.put o.dst (.bool t)) (.inRegion ops rest::k)) cs) w)(ho:ops[i]?=some o:=by exact rfl)(hw:Region.wanted o (yielded ops a.tmps)=true:=by exact rfl)(hk:b.kind≠.early:=by decide)(hr:∀dJ,O P0->ε dJ P0 10 (.bool t)->(execOp a.eval o).run prog dJ=.ok (.value (.bool t)) dJ/\∀e∈(execOp a.eval o).events prog dJ #[],Pm.Ev O K e:=by exact λdJ sP c5=>⟨by go_simp,by (simp[go_sem,c5];exact .inl sP)⟩):Pm.Way prog main K A X Stop O (G (b.at a (.inRegion ops (i::rest)::k)) cs) w:=ag ho hw hk (λdJ aJ=>by
 obtain⟨sP,-,-,-,c10⟩:=(hI.rely hK aJ).a;rw[e]at c10;exact hr dJ sP c10) h
end
def Λ{p q:Prop}(H:q)(h:Hid q->p:=by intro H;(iterate 2 (refine wV (.bool false) ?_;walk_nrm));(repeat refine wN ?_);refine wF ?_;(repeat refine wN ?_);refine wR ?_;exact H.out):p:=h H
def Ω{p q:Prop}(H:q)(h:Hid q->p:=by intro H;(iterate 2 (refine wV (.bool true) ?_;walk_nrm));(repeat refine wN ?_);refine wT ?_;(repeat refine wN ?_);exact H.out):p:=h H
def μ{p q:Prop}(H:q)(h:Hid q->p:=by (intro H;walk_nrm;repeat first|(refine wU ?_;walk_nrm)|(refine wW ?_;walk_nrm));(repeat refine wN ?_);refine au rfl (λ_=>stepG_ret') ?_;exact ax rfl rfl rfl rfl rfl H.out):p:=h H
def Ψ{p q:Prop}(H:q)(h:Hid q->p:=by (intro H;repeat first|(refine wU ?_;walk_nrm)|(refine wW ?_;walk_nrm));(repeat refine wN ?_);refine wR ?_;(repeat first|(refine wU ?_;walk_nrm)|(refine wW ?_;walk_nrm));(repeat refine wN ?_);refine au rfl (λ_=>stepG_ret') ?_;exact ax rfl rfl rfl rfl rfl H.out):p:=h H
variable {c5:gN}{P0 G0:Nat}{L:List (Nat×Obj)}{O K:ϑ}{A:Ξ}{X:Event->Prop}{Stop:(ϑ)->Goroutine->Ξ}{wa:Δ}
def DS(hn:1<=c5.n/\c5.n<=6)(hl4:c5.b<=4000)(hfair:td c5)(hA:∀w d,A w->A (w.at d))(hK:∀b,b<2->K b)(h:Mq c5 P0 G0 (Jr c5) L O wa)(kd a b c:Int)(t:ByteArray)(ha:j7 a)(hb:j7 b)(hc:j7 c)(hk10:kd≠10){rest:List Frame}(hk:∀O' wa',Mq c5 P0 G0 (Jr c5) L O' wa'->Pm.Way prog true K A X Stop O' (G (cf.finish (.bool true)) rest) wa'):Pm.Way prog true K A X Stop O (G (Frame.enter prog 27 #[pT P0 0,.agg #[.int .i64 kd,.int .i64 a,.int .i64 b,.int .i64 c,.string t]] .normal) (cf::rest)) wa:=by
 rw[enter_at _ func27 rfl];simp only[f27];walk_nrm;refine wN ?_;refine wR ?_;refine eP (f:=λ_=>.cells (aP kd a b c t) 51) rfl rfl θ (λwg bi=>⟨by go_simp,by simp[go_sem, *]⟩) λwg bi=>?_;walk_nrm;have hM:=(h.rely hK bi).i (.cells (aP kd a b c t) 51);obtain⟨bx,hbx⟩:∃bx,bx=wg.heap.size:=⟨_,rfl⟩;rw[<-hbx]at hM⊢;generalize wg.alloc (.cells (aP kd a b c t) 51)=w3 at hM⊢;generalize (λb=>O b\/b=bx)=O3 at hM⊢;clear h bi hbx;refine wV (.bool false) ?_;walk_nrm;refine wN ?_;refine wN ?_;refine jw um rfl hA ?_;refine ox (m:=7) (vals:=AC bx P0 c5.n a) (I:=λO w=>Mq c5 P0 G0 (Jr c5) ((bx,Obj.cells (aP kd a b c t) 51)::L) O w) κ ?_ ?_ O3 w3 hM
 .intro i hi a' rest' O' w' hd ho hI hgo;obtain⟨sO,sc⟩:=hI.side (yY ..);obtain⟨sP,-,-⟩:=hI.cell2;match i,hi with
  |0,_=>exact Φ (pT bx 0) (pT bx 1) ((ho 3 θ).trans ς) (hgo O' w' hI)
  |1,_=>
   have e14:a'.tmps[14]?=some (pT bx 1):=hd 0 θ 14 rfl;refine ag (v:=.int .i64 a) rfl rfl θ (λdJ aJ=>?_) (hgo O' w' hI);have c1:ε dJ bx 1 (.int .i64 a):=((hI.rely hK aJ).side (yY ..)).2 1 _ rfl;exact⟨by simp[go_sem,Array.getD_eq_getD_getElem?,e14,c1],by simp[go_sem,Array.getD_eq_getD_getElem?,e14,c1];exact .inl sO⟩
  |2,_=>exact Φ (pT P0 0) (pT P0 0) ((ho 0 θ).trans ς) (hgo O' w' hI)
  |3,_=>exact Φ (pT P0 0) (pT P0 0) (hd 2 θ 16 rfl) (hgo O' w' hI)
  |4,_=>exact Φ (pT P0 0) (pT P0 1) (hd 3 θ 17 rfl) (hgo O' w' hI)
  |5,_=>exact Φ (pT P0 1) (pT P0 1) (hd 4 θ 18 rfl) (hgo O' w' hI)
  |6,_=>
   have e19:a'.tmps[19]?=some (pT P0 1):=hd 5 θ 19 rfl;refine ag (v:=.int .i64 c5.n) rfl rfl θ (λdJ aJ=>?_) (hgo O' w' hI);obtain⟨-,-,c1⟩:=(hI.rely hK aJ).cell2;exact⟨by simp[go_sem,Array.getD_eq_getD_getElem?,e19,c1],by simp[go_sem,Array.getD_eq_getD_getElem?,e19,c1];exact .inl sP⟩
 intro O' w' hI l hl;have hl':=mA (L':=[[7,8]]) hl κ;rw[yu]at hl';subst hl';clear hl;simp only[AM,List.range,List.range.loop,List.foldl,dR,AC];walk_nrm;have hp:=fO a c5.n;refine wA f34 ?_;walk_nrm;refine Mq.g hI hK (f:=34) (args:=[.int .i64 a,.int .i64 c5.n]) (v:=.int .i64 (bw a c5.n)) rfl rfl ς ς (λw=>hp w ha hn.1 ω) λO4 w4 hI4=>?_;have hq:=cM a hn.1;generalize bw a c5.n=q at hq⊢;clear hI hp hM;rw[Frame.finish_at];walk_nrm;generalize hl2:(bx,Obj.cells (aP kd a b c t) 51)::L=L2 at hI4;have hI:=hI4;clear hI4;subst hl2;refine wV (.int .i64 q) ?_;walk_nrm;repeat refine wN ?_
 refine wR ?_;refine wV (pT bx 0) ?_;walk_nrm;refine IW (.int .i64 kd) ?_;walk_nrm;repeat refine wN ?_
 refine wR ?_;by_cases h5:kd=5
 .subst h5;refine Ω ?_;refine wT ?_;repeat refine wN ?_
  refine wR ?_;refine wV (pT P0 0) ?_;walk_nrm;refine IW (.agg (aP 5 a b c t)) ?_;walk_nrm;refine wA f57 ?_;walk_nrm;refine Mq.h hn hl4 hI hK 5 a b c t ha hb hc λO5 w5 hI5=>?_;rw[Frame.finish_at];exact μ (hk O5 w5 (hI5.d λx hx=>y6 _ hx))
 refine Λ ?_;by_cases h6:kd=6
 .subst h6;refine Ω ?_;refine wT ?_;repeat refine wN ?_
  refine wR ?_;refine wV (pT P0 0) ?_;walk_nrm;refine IW (.agg (aP 6 a b c t)) ?_;walk_nrm;refine wA f57 ?_;walk_nrm;refine Mq.h hn hl4 hI hK 6 a b c t ha hb hc λO5 w5 hI5=>?_;rw[Frame.finish_at];exact μ (hk O5 w5 (hI5.d λx hx=>y6 _ hx))
 refine Λ ?_;by_cases h7:kd=7
 .subst h7;refine Ω ?_;refine wT ?_;repeat refine wN ?_
  refine wR ?_;refine wV (pT P0 0) ?_;walk_nrm;refine IW (.agg (aP 7 a b c t)) ?_;walk_nrm;refine wA f57 ?_;walk_nrm;refine Mq.h hn hl4 hI hK 7 a b c t ha hb hc λO5 w5 hI5=>?_;rw[Frame.finish_at];exact μ (hk O5 w5 (hI5.d λx hx=>y6 _ hx))
 refine Λ ?_;by_cases h8:kd=8
 .subst h8;refine Ω ?_;refine wT ?_;repeat refine wN ?_
  refine wR ?_;refine wV (pT P0 0) ?_;walk_nrm;refine IW (.agg (aP 8 a b c t)) ?_;walk_nrm;refine wA f57 ?_;walk_nrm;refine Mq.h hn hl4 hI hK 8 a b c t ha hb hc λO5 w5 hI5=>?_;rw[Frame.finish_at];exact μ (hk O5 w5 (hI5.d λx hx=>y6 _ hx))
 refine Λ ?_;by_cases h9:kd=9
 .subst h9;refine Ω ?_;refine wR ?_;refine wV (pT P0 0) ?_;walk_nrm;refine IW (.agg (aP 9 a b c t)) ?_;walk_nrm;refine wA f57 ?_;walk_nrm;refine Mq.h hn hl4 hI hK 9 a b c t ha hb hc λO5 w5 hI5=>?_;rw[Frame.finish_at];exact μ (hk O5 w5 (hI5.d λx hx=>y6 _ hx))
 refine Λ ?_;by_cases hc1:kd=1
 .subst hc1;refine Ω ?_;refine jw um rfl hA ?_;refine ox (m:=8) (vals:=Fb bx P0 G0 q t) (I:=λO w=>Mq c5 P0 G0 (Jr c5) ((bx,Obj.cells (aP 1 a b c t) 51)::L) O w) κ ?_ ?_ _ _ hI
  .intro i hi a' rest' O' w' hd ho hI hgo;obtain⟨sO,sc⟩:=hI.side (yY ..);obtain⟨sP,-,-⟩:=hI.cell2;match i,hi with
   |0,_=>exact Φ (pT P0 0) (pT P0 0) ((ho 0 θ).trans ς) (hgo O' w' hI)
   |1,_=>exact Φ (pT P0 0) (pT P0 0) (hd 0 θ 35 rfl) (hgo O' w' hI)
   |2,_=>exact Φ (pT P0 0) (pT P0 0) (hd 1 θ 36 rfl) (hgo O' w' hI)
   |3,_=>
    have e0:a'.tmps[37]?=some (pT P0 0):=hd 2 θ 37 rfl;refine ag (v:=pT G0 0) rfl rfl θ (λdJ aJ=>?_) (hgo O' w' hI);obtain⟨-,c1,-⟩:=(hI.rely hK aJ).cell2;exact⟨by simp[go_sem,Array.getD_eq_getD_getElem?,e0,c1],by simp[go_sem,Array.getD_eq_getD_getElem?,e0,c1];exact .inl sP⟩
   |4,_=>exact Φ (.int .i64 q) (.int .i64 q) ((ho 5 θ).trans ς) (hgo O' w' hI)
   |5,_=>exact Φ (pT bx 0) (pT bx 4) ((ho 3 θ).trans ς) (hgo O' w' hI)
   |6,_=>
    have e0:a'.tmps[40]?=some (pT bx 4):=hd 5 θ 40 rfl;refine ag (v:=.string t) rfl rfl θ (λdJ aJ=>?_) (hgo O' w' hI);have c1:ε dJ bx 4 (.string t):=((hI.rely hK aJ).side (yY ..)).2 4 _ rfl;exact⟨by simp[go_sem,Array.getD_eq_getD_getElem?,e0,c1],by simp[go_sem,Array.getD_eq_getD_getElem?,e0,c1];exact .inl sO⟩
   |7,_=>
    have e0:a'.tmps[41]?=some (.string t):=hd 6 θ 41 rfl;refine wA f58 ?_;have ea:(#[Operand.tmp 41,Operand.const (Value.int .i64 16)].map a'.eval)=[Value.string t,.int .i64 16].toArray:=by simp[Act.eval,Array.getD_eq_getD_getElem?,e0]
    rw[ea];exact Mq.g hI hK (f:=58) (args:=[.string t,.int .i64 16]) (v:=.string (xU t 16)) rfl rfl ς ς (λw=>Iy t 16 w) λO5 w5 hI5=>by rw[Frame.finish_at];exact hgo O5 w5 hI5
  intro O' w' hI l hl;have hl':=mA (L':=[[8,9]]) hl κ;rw[yu]at hl';subst hl';clear hl;simp only[AM,List.range,List.range.loop,List.foldl,dR,Fb];walk_nrm;have hts:=BQ t 16;generalize xU t 16=t2 at hts⊢;obtain⟨G1,cr,hR,hI⟩:=hI.e;have hq0:(0:Int)<=(q:Int):=ω;have hq6:(q:Int)<6:=ω;refine wA f56 ?_;walk_nrm;refine Mq.f hI hK (f:=56) rfl rfl true (args:=[.int .i64 q,.string t2]) ς (Q:=λv G' cr'=>v=.int .i64 ((G1.b q).Mf t2)/\G'=G1.cast q t2/\cr'=cr) (λw pp gb FG G' cr' h1 h2 h3 h4=>?_) λv O5 w5 hI5=>?_;obtain⟨rfl,rfl⟩:=h4;exact(Aj ((hR.a hn).b hn.2 hl4) h3 (by rw[(hR.a hn).n];exact hq) t2 hts λ_=>(hR.a hn).c hq t2).mono λe w' h=>⟨_,h.1,ς,_,h.2,rfl,rfl,rfl⟩;obtain⟨rfl,hI6⟩:=Mq.z hI5;clear hI hI5;have hI:=hI6;clear hI6;have hR2:Jr c5 (G1.cast q t2) cr:=hR.cast q t2 hq hts;rcases tS (G1.b q) hts with e|e|e|e|⟨e,h6⟩|⟨e,h7,h8⟩<;>rw[e,Frame.finish_at]<;>walk_nrm;exact Ψ (hk _ _ (hI.b λ_ _ h=>by obtain⟨rfl,rfl⟩:=h;exact hR2));exact Ψ (hk _ _ (hI.b λ_ _ h=>by obtain⟨rfl,rfl⟩:=h;exact hR2));exact Ψ (hk _ _ (hI.b λ_ _ h=>by obtain⟨rfl,rfl⟩:=h;exact hR2));exact Ψ (hk _ _ (hI.b λ_ _ h=>by obtain⟨rfl,rfl⟩:=h;exact hR2))
  .have hcq:cr q=true:=by rw[<-(hR.a hn).crashed q];exact h6
   refine ζ ?_;iterate 22 (refine ξ ?_)
   refine φ hq0 hq6 ?_;refine υ q hcq hI hK ω ?_;exact μ (hk _ _ (hI.b λ_ _ h=>by obtain⟨rfl,rfl⟩:=h;exact hR2))
  have hf:c5.a=false:=by cases hf:c5.a;rfl;have:=hfair hf G1 cr hR q hq h7;rw[h8]at this;cases this
  refine ζ ?_;iterate 33 (refine ξ ?_)
  refine η hf hI hK ?_;exact μ (hk _ _ (hI.b λ_ _ h=>by obtain⟨rfl,rfl⟩:=h;exact hR2))
 refine Λ ?_;by_cases hc2:kd=2
 .subst hc2;refine Ω ?_;refine wR ?_;iterate 3 (refine wV (pT P0 0) ?_;walk_nrm)
  refine Kj (pT G0 0) ?_;walk_nrm;refine wV (.int .i64 q) ?_;walk_nrm;refine wA f40 ?_;walk_nrm;obtain⟨G1,cr,hR,hI⟩:=hI.e;have hq0:(0:Int)<=(q:Int):=ω;have hq6:(q:Int)<6:=ω;refine Mq.f hI hK (f:=40) rfl rfl true (args:=[.int .i64 q]) ς (Q:=λv G' cr'=>v=.int .i64 (G1.b q).MC/\G'=G1.tick q/\cr'=cr) (λw pp gb FG G' cr' h1 h2 h3 h4=>?_) λv O5 w5 hI5=>?_;obtain⟨rfl,rfl⟩:=h4;exact(Gf ((hR.a hn).b hn.2 hl4) h3 (by rw[(hR.a hn).n];exact hq)).mono λe w' h=>⟨_,h.1,ς,_,h.2,rfl,rfl,rfl⟩;obtain⟨rfl,hI6⟩:=Mq.z hI5;clear hI hI5;have hI:=hI6;clear hI6;have hR2:Jr c5 (G1.tick q) cr:=hR.tick q hq;rcases kl (G1.b q)with e|⟨e,h6⟩|⟨e,h7,h8⟩<;>rw[e,Frame.finish_at]<;>walk_nrm;exact Ψ (hk _ _ (hI.b λ_ _ h=>by obtain⟨rfl,rfl⟩:=h;exact hR2))
  .have hcq:cr q=true:=by rw[<-(hR.a hn).crashed q];exact h6
   refine ζ ?_;iterate 10 (refine ξ ?_)
   refine φ hq0 hq6 ?_;refine υ q hcq hI hK ω ?_;exact μ (hk _ _ (hI.b λ_ _ h=>by obtain⟨rfl,rfl⟩:=h;exact hR2))
  have hf:c5.a=false:=by cases hf:c5.a;rfl;have:=hfair hf G1 cr hR q hq h7;rw[h8]at this;cases this
  refine ζ ?_;iterate 21 (refine ξ ?_)
  refine η hf hI hK ?_;exact μ (hk _ _ (hI.b λ_ _ h=>by obtain⟨rfl,rfl⟩:=h;exact hR2))
 refine Λ ?_;by_cases hc4:kd=4
 .subst hc4;refine Ω ?_;refine wR ?_;iterate 3 (refine wV (pT P0 0) ?_;walk_nrm)
  refine Kj (pT G0 0) ?_;walk_nrm;refine wV (.int .i64 q) ?_;walk_nrm;refine wA f39 ?_;walk_nrm;obtain⟨G1,cr,hR,hI⟩:=hI.e;have hq0:(0:Int)<=(q:Int):=ω;have hq6:(q:Int)<6:=ω;refine Mq.f hI hK (f:=39) rfl rfl true (args:=[.int .i64 q]) ς (Q:=λv G' cr'=>v=.int .i64 (if (G1.b q).f then 6 else 0)/\G'=G1.crash q/\cr'=cr) (λw pp gb FG G' cr' h1 h2 h3 h4=>?_) λv O5 w5 hI5=>?_;obtain⟨rfl,rfl⟩:=h4;exact(Et h3 (by rw[(hR.a hn).n];exact hq)).mono λe w' h=>⟨_,h.1,ς,_,h.2,rfl,rfl,rfl⟩;obtain⟨rfl,hI6⟩:=Mq.z hI5;clear hI hI5;have hI:=hI6;clear hI6;have hR2:Jr c5 (G1.crash q) (cr.put q):=hR.crash q hq;rw[(hR.a hn).crashed q];cases hcq:cr q
  .simp only[yH,if_false];rw[Frame.finish_at];walk_nrm;refine ζ ?_;iterate 4 (refine ξ ?_)
   refine φ hq0 hq6 ?_;refine υ q hcq hI hK ω ?_;walk_nrm;refine ζ ?_;iterate 4 (refine ξ ?_)
   refine φ hq0 hq6 ?_;refine j3 (ad:=⟨P0,4+q,none⟩) (v:=.bool true) rfl rfl θ hI.a.1 (λdJ aJ=>?_) λdJ aJ=>?_
   .have c5:=(hI.rely hK aJ).a.2.2.2.1 q ω;have hfz:=(hI.rely hK aJ).c (4+q);exact⟨by go_simp,by simp[go_sem,events_store _ _ _ _ (Value.bool true) _ rfl,c5,hfz]⟩
   have hI7:=(hI.rely hK aJ).j (q:=q) ω;clear hI;have hI:=hI7;clear hI7;walk_nrm;exact Ψ (hk _ _ (hI.b λ_ _ h=>by obtain⟨rfl,rfl⟩:=h;exact hR2))
  simp only[if_true];rw[Frame.finish_at];walk_nrm;refine ζ ?_;iterate 4 (refine ξ ?_)
  refine φ hq0 hq6 ?_;refine υ q hcq hI hK ω ?_;walk_nrm;refine ζ ?_;iterate 4 (refine ξ ?_)
  refine φ hq0 hq6 ?_;refine j3 (ad:=⟨P0,4+q,none⟩) (v:=.bool true) rfl rfl θ hI.a.1 (λdJ aJ=>?_) λdJ aJ=>?_
  .have c5:=(hI.rely hK aJ).a.2.2.2.1 q ω;have hfz:=(hI.rely hK aJ).c (4+q);exact⟨by go_simp,by simp[go_sem,events_store _ _ _ _ (Value.bool true) _ rfl,c5,hfz]⟩
  have hI7:=(hI.rely hK aJ).j (q:=q) ω;clear hI;have hI:=hI7;clear hI7;walk_nrm;exact Ψ (hk _ _ (hI.b λ_ _ h=>by obtain⟨rfl,rfl⟩:=h;exact hR2))
 refine Λ ?_;by_cases hc3:kd=3
 .subst hc3;refine Ω ?_;refine jw um rfl hA ?_;refine ox (m:=7) (vals:=Fc bx P0 c5.n b) (I:=λO w=>Mq c5 P0 G0 (Jr c5) ((bx,Obj.cells (aP 3 a b c t) 51)::L) O w) κ ?_ ?_ _ _ hI
  .intro i hi a' rest' O' w' hd ho hI hgo;obtain⟨sO,sc⟩:=hI.side (yY ..);obtain⟨sP,-,-⟩:=hI.cell2;match i,hi with
   |0,_=>exact Φ (pT bx 0) (pT bx 2) ((ho 3 θ).trans ς) (hgo O' w' hI)
   |1,_=>
    have e14:a'.tmps[148]?=some (pT bx 2):=hd 0 θ 148 rfl;refine ag (v:=.int .i64 b) rfl rfl θ (λdJ aJ=>?_) (hgo O' w' hI);have c1:ε dJ bx 2 (.int .i64 b):=((hI.rely hK aJ).side (yY ..)).2 2 _ rfl;exact⟨by simp[go_sem,Array.getD_eq_getD_getElem?,e14,c1],by simp[go_sem,Array.getD_eq_getD_getElem?,e14,c1];exact .inl sO⟩
   |2,_=>exact Φ (pT P0 0) (pT P0 0) ((ho 0 θ).trans ς) (hgo O' w' hI)
   |3,_=>exact Φ (pT P0 0) (pT P0 0) (hd 2 θ 150 rfl) (hgo O' w' hI)
   |4,_=>exact Φ (pT P0 0) (pT P0 1) (hd 3 θ 151 rfl) (hgo O' w' hI)
   |5,_=>exact Φ (pT P0 1) (pT P0 1) (hd 4 θ 152 rfl) (hgo O' w' hI)
   |6,_=>
    have e19:a'.tmps[153]?=some (pT P0 1):=hd 5 θ 153 rfl;refine ag (v:=.int .i64 c5.n) rfl rfl θ (λdJ aJ=>?_) (hgo O' w' hI);obtain⟨-,-,c1⟩:=(hI.rely hK aJ).cell2;exact⟨by simp[go_sem,Array.getD_eq_getD_getElem?,e19,c1],by simp[go_sem,Array.getD_eq_getD_getElem?,e19,c1];exact .inl sP⟩
  intro O' w' hI l hl;have hl':=mA (L':=[[7,8]]) hl κ;rw[yu]at hl';subst hl';clear hl;simp only[AM,List.range,List.range.loop,List.foldl,dR,Fc];walk_nrm;have hp:=fO b c5.n;refine wA f34 ?_;walk_nrm;refine Mq.g hI hK (f:=34) (args:=[.int .i64 b,.int .i64 c5.n]) (v:=.int .i64 (bw b c5.n)) rfl rfl ς ς (λw=>hp w hb hn.1 ω) λO4 w4 hI4=>?_;have hr:=cM b hn.1;generalize bw b c5.n=r at hr⊢;have hr0:(0:Int)<=(r:Int):=ω;have hr6:(r:Int)<6:=ω;clear hI hp;rw[Frame.finish_at];walk_nrm;have hI:=hI4;clear hI4;refine wV (.int .i64 r) ?_;walk_nrm;obtain⟨G1,cr,hR,hI⟩:=hI.e;have hq0:(0:Int)<=(q:Int):=ω;have hq6:(q:Int)<6:=ω;repeat refine wN ?_
  refine wR ?_;iterate 3 (refine ξ ?_)
  cases hf:c5.a
  .refine η hf hI hK ?_;walk_nrm;repeat refine ξ ?_
   obtain⟨G2,hG2⟩:∃G2,G2=G1:=⟨_,rfl⟩;have hR2:Jr c5 (G1.suspect q r) cr:=hR.suspect q r hq hr (λh=>by rw[hf]at h;cases h);repeat refine wN ?_
   refine wF ?_;repeat refine wN ?_
   refine wR ?_;iterate 3 (refine ξ ?_)
   refine Kj (pT G0 0) ?_;walk_nrm;iterate 2 (refine ξ ?_)
   refine wA f32 ?_;walk_nrm;refine Mq.f hI hK (f:=32) rfl rfl true (args:=[.int .i64 q,.int .i64 r]) ς (Q:=λv G' cr'=>v=.int .i64 (if r=q then 5 else (G1.b q).MC)/\G'=G1.suspect q r/\cr'=cr) (λw pp gb FG G' cr' h1 h2 h3 h4=>?_) λv O5 w5 hI5=>?_;obtain⟨rfl,rfl⟩:=h4;exact(pQ ((hR.a hn).b hn.2 hl4) h3 (by rw[(hR.a hn).n];exact hq) (by rw[(hR.a hn).n];exact hr)).mono λe w' h=>⟨_,h.1,ς,_,h.2,rfl,rfl,rfl⟩;obtain⟨rfl,hI6⟩:=Mq.z hI5;clear hI hI5;have hI:=hI6;clear hI6;by_cases hrq:r=q
   .subst hrq;rw[if_pos rfl,Frame.finish_at];walk_nrm;exact Ψ (hk _ _ (hI.b λ_ _ h=>by obtain⟨rfl,rfl⟩:=h;exact hR2))
   rw[if_neg hrq];rcases kl (G1.b q)with e|⟨e,h6⟩|⟨e,h7,h8⟩<;>rw[e,Frame.finish_at]<;>walk_nrm;exact Ψ (hk _ _ (hI.b λ_ _ h=>by obtain⟨rfl,rfl⟩:=h;exact hR2))
   .have hcq:cr q=true:=by rw[<-(hR.a hn).crashed q];exact h6
    refine ζ ?_;iterate 19 (refine ξ ?_)
    refine φ hq0 hq6 ?_;refine υ q hcq hI hK ω ?_;exact μ (hk _ _ (hI.b λ_ _ h=>by obtain⟨rfl,rfl⟩:=h;exact hR2))
   refine ζ ?_;iterate 30 (refine ξ ?_)
   refine η hf hI hK ?_;exact μ (hk _ _ (hI.b λ_ _ h=>by obtain⟨rfl,rfl⟩:=h;exact hR2))
  refine η hf hI hK ?_;walk_nrm;iterate 5 (refine ξ ?_)
  cases hcr:cr r
  .refine φ hr0 hr6 ?_;refine υ r hcr hI hK ω ?_;walk_nrm;repeat refine ξ ?_
   repeat refine wN ?_
   refine wT ?_;repeat refine wN ?_
   refine wR ?_;refine wV (.bool true) ?_;walk_nrm;repeat refine wN ?_
   refine au rfl (λ_=>stepG_ret') ?_;exact ax rfl rfl rfl rfl rfl (hk _ _ ((hI.b λ_ _ h=>by obtain⟨rfl,rfl⟩:=h;exact hR).d λx hx=>y6 _ hx))
  refine φ hr0 hr6 ?_;refine υ r hcr hI hK ω ?_;walk_nrm;repeat refine ξ ?_
  obtain⟨G2,hG2⟩:∃G2,G2=G1:=⟨_,rfl⟩;have hR2:Jr c5 (G1.suspect q r) cr:=hR.suspect q r hq hr λ_=>hcr;repeat refine wN ?_
  refine wF ?_;repeat refine wN ?_
  refine wR ?_;iterate 3 (refine ξ ?_)
  refine Kj (pT G0 0) ?_;walk_nrm;iterate 2 (refine ξ ?_)
  refine wA f32 ?_;walk_nrm;refine Mq.f hI hK (f:=32) rfl rfl true (args:=[.int .i64 q,.int .i64 r]) ς (Q:=λv G' cr'=>v=.int .i64 (if r=q then 5 else (G1.b q).MC)/\G'=G1.suspect q r/\cr'=cr) (λw pp gb FG G' cr' h1 h2 h3 h4=>?_) λv O5 w5 hI5=>?_;obtain⟨rfl,rfl⟩:=h4;exact(pQ ((hR.a hn).b hn.2 hl4) h3 (by rw[(hR.a hn).n];exact hq) (by rw[(hR.a hn).n];exact hr)).mono λe w' h=>⟨_,h.1,ς,_,h.2,rfl,rfl,rfl⟩;obtain⟨rfl,hI6⟩:=Mq.z hI5;clear hI hI5;have hI:=hI6;clear hI6;by_cases hrq:r=q
  .subst hrq;rw[if_pos rfl,Frame.finish_at];walk_nrm;exact Ψ (hk _ _ (hI.b λ_ _ h=>by obtain⟨rfl,rfl⟩:=h;exact hR2))
  rw[if_neg hrq];rcases kl (G1.b q)with e|⟨e,h6⟩|⟨e,h7,h8⟩<;>rw[e,Frame.finish_at]<;>walk_nrm;exact Ψ (hk _ _ (hI.b λ_ _ h=>by obtain⟨rfl,rfl⟩:=h;exact hR2))
  .have hcq:cr q=true:=by rw[<-(hR.a hn).crashed q];exact h6
   refine ζ ?_;iterate 19 (refine ξ ?_)
   refine φ hq0 hq6 ?_;refine υ q hcq hI hK ω ?_;exact μ (hk _ _ (hI.b λ_ _ h=>by obtain⟨rfl,rfl⟩:=h;exact hR2))
  have:=hfair hf G1 cr hR q hq h7;rw[h8]at this;cases this
 iterate 2 (refine wV (.bool false) ?_;walk_nrm;refine wV (.bool false) ?_;walk_nrm;(repeat refine wN ?_);refine wF ?_;(repeat refine wN ?_);refine wR ?_)
 refine wV (.bool true) ?_;walk_nrm;repeat refine wN ?_
 refine au rfl (λ_=>stepG_ret') ?_;exact ax rfl rfl rfl rfl rfl (hk _ _ (hI.d λx hx=>y6 _ hx))
end
variable {n win lim:Nat}{fair:Bool}{P0 G0:Nat}{L:List (Nat×Obj)}{O K:ϑ}{wa:Δ}{Post:Θ->Ξ}
def KT(c5:gN)(P0 G0:Nat)(Post:Θ->Ξ)(cf:Frame)(rest:List Frame):(ϑ)->Goroutine->Ξ:=λOW g wg=>
 ∃(c':Frame)(m:Nat)(L':List (Nat×Obj)),g=G (Frame.enter prog 28 #[pT G0 0] .normal) (c'::cf::rest)/\Mq c5 P0 G0 (λG' cr=>Jr c5 G' cr/\G'.a.length=m) L' OW wg/\
   ∀Wg O' wa',qp O' (λb=>b<2) wa'->Mq c5 P0 G0 (Jr c5) L' O' wa'->aC prog 148 Post Wg [] .free O' (λb=>b<2) (G (c'.finish (.int .i64 m)) (cf::rest)) wa'
def xT(hn:1<=n/\n<=6)(hl4:lim<=4000)(hK:∀b,b<2->K b)(h:Mq (gN.mk n win lim fair) P0 G0 (Jr (gN.mk n win lim fair)) L O wa)(ho:qp O K wa)(a b c:Int)(t:ByteArray)(ha:j7 a){WgA:Nat}{cf:Frame}{rest:List Frame}(kont:∀Wg O' wa',qp O' (λb=>b<2) wa'->Mq (gN.mk n win lim fair) P0 G0 (Jr (gN.mk n win lim fair)) L O' wa'->aC prog 148 Post Wg [] .free O' (λb=>b<2) (G (cf.finish (.bool true)) rest) wa'):aC prog 148 Post WgA [] .free O K (G (Frame.enter prog 27 #[pT P0 0,.agg #[.int .i64 10,.int .i64 a,.int .i64 b,.int .i64 c,.string t]] .normal) (cf::rest)) wa:=by
 have hA:∀w d,Al 148 WgA .free w->Al 148 WgA .free (w.at d):=λw d h=>h;have part1:Pm.Way prog true K (Al 148 WgA .free) (XS WgA .free) (KT (gN.mk n win lim fair) P0 G0 Post cf rest) O (G (Frame.enter prog 27 #[pT P0 0,.agg #[.int .i64 10,.int .i64 a,.int .i64 b,.int .i64 c,.string t]] .normal) (cf::rest)) wa:=by
  rw[enter_at _ func27 rfl];simp;walk_nrm;refine wN ?_;refine wR ?_;refine eP (f:=λ_=>.cells (aP 10 a b c t) 51) rfl rfl θ (λwg bi=>⟨by go_simp,by simp[go_sem, *]⟩) λwg bi=>?_;walk_nrm;have hM:=(h.rely hK bi).i (.cells (aP 10 a b c t) 51);obtain⟨bx,hbx⟩:∃bx,bx=wg.heap.size:=⟨_,rfl⟩;rw[<-hbx]at hM⊢;generalize wg.alloc (.cells (aP 10 a b c t) 51)=w3 at hM⊢;generalize (λb=>O b\/b=bx)=O3 at hM⊢;clear h bi hbx;refine wV (.bool false) ?_;walk_nrm;refine wN ?_;refine wN ?_;refine jw um rfl hA ?_;refine ox (m:=7) (vals:=AC bx P0 n a) (I:=λO w=>Mq (gN.mk n win lim fair) P0 G0 (Jr (gN.mk n win lim fair)) ((bx,Obj.cells (aP 10 a b c t) 51)::L) O w) κ ?_ ?_ O3 w3 hM
  .intro i hi a' rest' O' w' hd ho hI hgo;obtain⟨sO,sc⟩:=hI.side (yY ..);obtain⟨sP,-,-⟩:=hI.cell2;match i,hi with
   |0,_=>
    have e3:a'.tmps[3]?=some (pT bx 0):=(ho 3 θ).trans ς;exact ag (v:=pT bx 1) rfl rfl θ (λdJ aJ=>⟨by simp[go_sem,Array.getD_eq_getD_getElem?,e3],by simp[go_sem,Array.getD_eq_getD_getElem?,e3]⟩) (hgo O' w' hI)
   |1,_=>
    have e14:a'.tmps[14]?=some (pT bx 1):=hd 0 θ 14 rfl;refine ag (v:=.int .i64 a) rfl rfl θ (λdJ aJ=>?_) (hgo O' w' hI);have c1:ε dJ bx 1 (.int .i64 a):=((hI.rely hK aJ).side (yY ..)).2 1 _ rfl;exact⟨by simp[go_sem,Array.getD_eq_getD_getElem?,e14,c1],by simp[go_sem,Array.getD_eq_getD_getElem?,e14,c1];exact .inl sO⟩
   |2,_=>
    have e0:a'.tmps[0]?=some (pT P0 0):=(ho 0 θ).trans ς;exact ag (v:=pT P0 0) rfl rfl θ (λdJ aJ=>⟨by simp[go_sem,Array.getD_eq_getD_getElem?,e0],by simp[go_sem,Array.getD_eq_getD_getElem?,e0]⟩) (hgo O' w' hI)
   |3,_=>
    have e16:a'.tmps[16]?=some (pT P0 0):=hd 2 θ 16 rfl;exact ag (v:=pT P0 0) rfl rfl θ (λdJ aJ=>⟨by simp[go_sem,Array.getD_eq_getD_getElem?,e16],by simp[go_sem,Array.getD_eq_getD_getElem?,e16]⟩) (hgo O' w' hI)
   |4,_=>
    have e17:a'.tmps[17]?=some (pT P0 0):=hd 3 θ 17 rfl;exact ag (v:=pT P0 1) rfl rfl θ (λdJ aJ=>⟨by simp[go_sem,Array.getD_eq_getD_getElem?,e17],by simp[go_sem,Array.getD_eq_getD_getElem?,e17]⟩) (hgo O' w' hI)
   |5,_=>
    have e18:a'.tmps[18]?=some (pT P0 1):=hd 4 θ 18 rfl;exact ag (v:=pT P0 1) rfl rfl θ (λdJ aJ=>⟨by simp[go_sem,Array.getD_eq_getD_getElem?,e18],by simp[go_sem,Array.getD_eq_getD_getElem?,e18]⟩) (hgo O' w' hI)
   |6,_=>
    have e19:a'.tmps[19]?=some (pT P0 1):=hd 5 θ 19 rfl;refine ag (v:=.int .i64 n) rfl rfl θ (λdJ aJ=>?_) (hgo O' w' hI);obtain⟨-,-,c1⟩:=(hI.rely hK aJ).cell2;exact⟨by simp[go_sem,Array.getD_eq_getD_getElem?,e19,c1],by simp[go_sem,Array.getD_eq_getD_getElem?,e19,c1];exact .inl sP⟩
  intro O' w' hI l hl;have hl':=mA (L':=[[7,8]]) hl κ;rw[yu]at hl';subst hl';simp only[AM,List.range,List.range.loop,List.foldl,dR,AC];walk_nrm;have hp:=fO a n;refine wA f34 ?_;walk_nrm;refine Mq.g hI hK (f:=34) (args:=[.int .i64 a,.int .i64 n]) (v:=.int .i64 (bw a n)) rfl rfl ς ς (λw=>hp w ha hn.1 ω) λO4 w4 hI4=>?_;have hq:=cM a hn.1;generalize bw a n=q at hq⊢;rw[Frame.finish_at];walk_nrm;generalize hl2:(bx,Obj.cells (aP 10 a b c t) 51)::L=L2 at hI4;have hI:=hI4;clear hI4;subst hl2;refine wV (.int .i64 q) ?_;walk_nrm;repeat refine wN ?_
  refine wR ?_;refine wV (pT bx 0) ?_;walk_nrm;refine IW (.int .i64 10) ?_;walk_nrm;iterate 9 ((repeat refine wN ?_);refine wR ?_;refine wV (.bool false) ?_;walk_nrm;refine wV (.bool false) ?_;walk_nrm;(repeat refine wN ?_);refine wF ?_)
  repeat refine wN ?_
  refine wR ?_;iterate 2 (refine wV (.bool true) ?_;walk_nrm)
  repeat refine wN ?_
  refine wT ?_;repeat refine wN ?_
  refine wR ?_;iterate 3 (refine wV (pT P0 0) ?_;walk_nrm)
  refine Kj (pT G0 0) ?_;walk_nrm;refine wA f41 ?_;walk_nrm;refine Mq.f hI hK (f:=41) rfl rfl true (args:=[]) ς (Q:=λv G' cr=>v=.int .i64 G'.a.length/\Jr (gN.mk n win lim fair) G' cr) (λw pp gb FG G1 cr h1 h2 h3 h4=>(vM h3).mono λe w' h=>⟨_,h.1,ς,G1,by rw[h.2];exact⟨cW.j _ _,h3.c aY.c⟩,rfl,h4⟩) λv O5 w5 hI5=>?_;obtain⟨m,rfl,hI6⟩:∃m:Nat,v=.int .i64 m/\Mq (gN.mk n win lim fair) P0 G0 (λG' cr=>Jr (gN.mk n win lim fair) G' cr/\G'.a.length=m) ((bx,Obj.cells (aP 10 a b c t) 51)::L) O5 w5:=by obtain⟨G1,cr,⟨h1,h2⟩,hI5⟩:=hI5.e;exact⟨G1.a.length,h1,hI5.b λG' cr' h=>by obtain⟨rfl,rfl⟩:=h;exact⟨h2,rfl⟩⟩
  clear hI hI5;have hI:=hI6;clear hI6;rw[Frame.finish_at];walk_nrm;refine wV (.int .i64 m) ?_;walk_nrm;repeat refine wN ?_
  refine wR ?_;iterate 3 (refine wV (pT P0 0) ?_;walk_nrm)
  refine Kj (pT G0 0) ?_;walk_nrm;refine wA f28 ?_;walk_nrm;refine .stop λdJ aJ=>⟨_,m,_,rfl,hI.rely hK aJ,λWg O' wa' hown' hM=>?_⟩;refine aC.c (lL (Stop:=λOW g wg=>g=G (cf.finish (.bool true)) rest/\Mq (gN.mk n win lim fair) P0 G0 (Jr (gN.mk n win lim fair)) L OW wg) ?_ hown') λOW g wg hS=>?_
  .rw[Frame.finish_at];walk_nrm;refine wV (.int .i64 m) ?_;walk_nrm;repeat refine wN ?_
   refine wR ?_;iterate 2 (refine wV (.int .i64 m) ?_;walk_nrm)
   iterate 2 (refine wV (.bool true) ?_;walk_nrm)
   repeat refine wN ?_
   refine au rfl (λ_=>stepG_ret') ?_;exact ax rfl rfl rfl rfl rfl (.stop λw5 h5=>⟨rfl,(hM.d λx hx=>y6 _ hx).rely (λb hb=>hb) h5⟩)
  obtain⟨⟨rfl,hM2⟩,hown2⟩:=hS wg (.c _ _ _ _);exact kont Wg OW wg hown2 hM2
 refine aC.c (lL part1 ho) λOW g wg hS=>?_;obtain⟨⟨c',m,L',rfl,hM,hkont⟩,hown⟩:=hS wg (.c _ _ _ _);refine wO (J:=λG' cr=>Jr (gN.mk n win lim fair) G' cr/\G'.a.length=m) hn hK (λG1 cr h=>?_) hM hown λWg O' wa' m' hown' hM'=>?_;have hi:=h.1.a hn;refine⟨hi.b hn.2 hl4,hi.n,λx hx=>?_⟩;obtain⟨k,hk⟩:=List.getElem?_of_mem hx;obtain⟨f,h1,h2,h3⟩:=hi.d hk;refine⟨?_,by rw[hi.n];exact h3⟩;rw[h2];exact(wI h1).2;obtain rfl:m'=m:=by obtain⟨_,_,⟨G1,h1,h2,-⟩,-⟩:=hM'.e;exact h2.symm.trans h1.2
 refine hkont Wg O' wa' hown' (hM'.b λG' cr' h=>?_);obtain⟨G1,h1,h2,rfl⟩:=h;exact h1.1.round
