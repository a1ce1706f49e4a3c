import Derived.Test.YtoklolfaemhfnaaGreatDoorZag
import Derived.Test.YtoklolfaemhfnaaGreatDoorZax
import Derived.Test.YtoklolfaemhfnaaGreatDoorZbe
set_option maxRecDepth 100000
set_option maxHeartbeats 0
set_option linter.defProp false
open Go.Proofs.Tryz
namespace Go.Proofs.Y
section
open Go.RowKit
open Go.Pm (Perm Fam SupO FixS Loose Shut)
variable {xs:List Θ}{n:Nat}
def gS(ρ:Perm)(F:ϑ)(w w2:Δ):Prop:=∀r o,F r->w.heap[r]?=some o->w2.heap[ρ.f r]?=some (o.pm ρ)
def tf(ρ:Perm)(F:ϑ):ϑ:=λx=>F (ρ.i x)
section
variable {ρ:Perm}{F:ϑ}{w w2:Δ}
def tf.a{r:Nat}(h:F r):tf ρ F (ρ.f r):=by rw[tf,ρ.a];exact h
def af.j(d:gS ρ F w w2){b:Nat}(c:F b){t:TypeId}{a:Array Θ}(h:af w b t a):af w2 (ρ.f b) t (a.map (Value.pm ρ)):=d b _ c h
def qe(v:Θ):(v.pm ρ).ownBlock=v.ownBlock.map ρ.f:=by
 cases v with
 |slice a l c=>cases a<;>simp[Value.ownBlock,Addr.pm]
 |_=>simp[Value.ownBlock]
def iL(a:∀x∈xs,x.pm ρ=x):xs.map (Value.pm ρ)=xs:=by have:=GU (g:=id) a;rw[this,List.map_id]
def iG(l:Υ):∀x∈ints l,x.pm ρ=x:=by intro x a;obtain⟨y,-,rfl⟩:=yW.1 a;simp
def Ai(l:List Ev):∀x∈az l,x.pm ρ=x:=by intro x b;obtain⟨y,-,a⟩:=Km.1 b;simp only[Ev.f,yF,yU,or_false]at a;rcases a with rfl|rfl|rfl|rfl|rfl|rfl<;>simp
def vL(l:List bC):∀x∈ar l,x.pm ρ=x:=by intro x b;obtain⟨y,-,a⟩:=Km.1 b;simp only[yF,yU,or_false]at a;rcases a with rfl|rfl<;>simp
def eB.j(p:gS ρ F w w2){e:TypeId}{h:Nat}{v:Θ}(i:∀x∈xs,x.pm ρ=x)(r:eB w F e h v n xs):eB w2 (tf ρ F) e h (v.pm ρ) n xs:=by refine⟨⟨r.d.1,?_⟩,λg d=>?_⟩;rcases r.d.2 with ⟨a,c⟩|⟨g,b,q,a,-,l,c,o,k,m⟩;exact .inl ⟨by rw[a];simp,c⟩;refine .inr ⟨ρ.f g,b,_,by rw[a];simp[Addr.pm],oI _,p g _ (r.c g (by rw[a];rfl)) l,c,o,by simpa using k,?_⟩;rw[yV,<-List.map_take,m];exact iL i;rw[qe]at d;obtain⟨j,a,rfl⟩:=yE.1 d;exact tf.a (r.c j a)
def cO.i(m:gS ρ F w w2){d:Nat}{c:List Nat}{o:List (Υ)}(u:F d)(s:∀r∈c,F r)(k:cO w n d c o):cO w2 n (ρ.f d) (c.map ρ.f) o:=by
 refine⟨by rw[yL];exact k.f,k.a,List.Pairwise.map _ (λa b g e=>g (ρ.Nd e)) k.d,?_,λq r l j t=>?_⟩
 .have:=af.j m u k.c;rw[Fj,AD]at this;rw[AD];have e:(Value.pm ρ∘λr=>Value.slice (some ⟨r,0,none⟩) n n)=((λr=>Value.slice (some ⟨r,0,none⟩) n n)∘ρ.f):=by funext r;simp[Addr.pm]
  rw[e]at this;exact this
 rw[yZ]at j;obtain⟨p,i,rfl⟩:=yE.1 j;have:=k.b q p l i t;refine⟨this.1,?_⟩;have h:=af.j m (s p (yy i)) this.2;rw[Fj,iL (iG l)]at h;exact h
def dX.c{b:Array MapEntry}{a:Nat}{l:aL}(m:dX b a l):dX (b.map (MapEntry.pm ρ)) a (l.map λx=>(x.1,x.2.pm ρ)):=by refine⟨?_,?_,?_,λe c=>?_⟩;have:=congrArg (List.map (Value.pm ρ)) m.key;simp only[AD]at this;simp only[yV,AD];refine Eq.trans ?_ (this.trans ?_);rfl;refine GU λx _=>?_;simp[bQ];have:=congrArg (List.map (Value.pm ρ)) m.val;simp only[AD]at this;simp only[yV,AD];refine Eq.trans ?_ (this.trans ?_);rfl;refine GU λx _=>?_;simp[aU];simp only[yV,AD];exact m.born;rw[yV]at c;obtain⟨d,f,rfl⟩:=yW.1 c;exact m.b d f
def cV.a{l:aL}(k:cV l):cV (l.map λx=>(x.1,x.2.pm ρ)):=List.Pairwise.map _ (λ_ _ h=>h) k
variable {b:Nat}{h:Hd}{kn:List (Υ)}{l:aL}{evs:List Ev}{snt:List bC}{kb mb:Nat}{rbs:List Nat}{es:Array MapEntry}{clk:Nat}{ev sv:Θ}
def xH(h:Hd):Prop:=∀ρ:Perm,h.k.pm ρ=h.k/\h.e.pm ρ=h.e/\h.j.pm ρ=h.j
def PA.a6(al:gS ρ F w w2)(hh:xH h)(p:PA w F b h kn l evs snt kb mb rbs es clk ev sv):PA w2 (tf ρ F) (ρ.f b) h kn (l.map λx=>(x.1,x.2.pm ρ)) evs snt (ρ.f kb) (ρ.f mb) (rbs.map ρ.f) (es.map (MapEntry.pm ρ)) clk (ev.pm ρ) (sv.pm ρ) where
 a:=by have:=af.j al p.t p.a;simpa[Hd.c,(hh ρ).1,(hh ρ).2.1,(hh ρ).2.2,Addr.pm]using this
 e:=p.e.i al p.z p.fr
 map:=al mb _ p.s p.map
 o:=p.o.c
 i:=p.i.a
 d:=λx hx=>by obtain⟨y,hy,rfl⟩:=yW.1 hx;refine⟨(p.d y hy).1.j al (iG _),λg hg=>?_⟩;simp only[qe]at hg;obtain⟨g0,h0,rfl⟩:=yE.1 hg;intro hm;obtain⟨r,hr,e⟩:=yW.1 hm;rw[ρ.Nd e]at hr;exact(p.d y hy).2 g0 h0 hr
 c:=p.c.j al (Ai _)
 f:=p.f.j al (vL _)
 t:=tf.a p.t
 z:=tf.a p.z
 s:=tf.a p.s
 fr:=λr hr=>by obtain⟨r0,h0,rfl⟩:=yW.1 hr;exact tf.a (p.fr r0 h0)
def PX.a(g:gS ρ F w w2)(c:xH h){a:List Codec.Msg}(p:PX w F b h kn a evs snt):PX w2 (tf ρ F) (ρ.f b) h kn a evs snt:=by obtain⟨l,rfl,o,i,e,m,d,j,k,q⟩:=p;have:=(q.a6 g c).px;rw[AD]at this;exact this
end
open Go.Pm (Sup Inside Ran Sim restrict loose_live obj_back frame_calls)
open Go.Cr (fam Tabs leafLaw progOk)
structure Cl(w:Δ)(F:ϑ):Prop where
 g:Tabs w
 f:7<=w.heap.size
 d:∀x,F x->7<=x/\∃o,w.heap[x]?=some o/\SupO fam F o
section
variable {w w':Δ}{F:ϑ}
def Cl.j(c:Cl w F){x:Nat}(a:F x):x<w:=by obtain⟨-,o,b,-⟩:=c.d x a;exact(yk.1 b).1
def bR(h:Tabs w)(a:∀x,x<7->w'.heap[x]?=w.heap[x]?):Tabs w':=leafLaw.a w w' (λb c=>a b (yg c θ)) h
def Cl.c(c:Cl w F)(f:∀x,F x->w'.heap[x]?=w.heap[x]?)(a:∀x,x<7->w'.heap[x]?=w.heap[x]?)(b:w.heap.size<=w'):Cl w' F:=
 ⟨bR c.g a,yr c.f b,λx e=>by obtain⟨d,o,h,g⟩:=c.d x e;exact⟨d,o,(f x e).trans h,g⟩⟩
def Cl.i(c:Cl w F)(b:Below w w w'):Cl w' F:=c.c (λx a=>b.block x (c.j a)) (λx a=>b.block x (yg a c.f)) b.size
def Cl.a{e:Perm}{b:Δ}(h:Loose fam e b w)(j:Pm.Shut fam b)(k:Tabs w):Cl w (λx=>∃r,7<=r/\r<b.heap.size/\e.f r=x):=by refine⟨k,h.a,λx g=>?_⟩;obtain⟨r,a,d,rfl⟩:=g;refine⟨loose_live h a,_,h.e r _ a (yl d),h.j j (λi l c=>⟨i,l,c,rfl⟩) a (yl d)⟩
def Cl.e(c:Cl w F):∃(d:Δ)(a:Perm),Loose fam a d w/\Pm.Shut fam d/\Tabs d/\Inside prog fam a d w/\(∀r,7<=r->r<d.heap.size->F (a.f r))/\(∀x,F x->7<=a.i x/\a.i x<d.heap.size)/\gS a.MS F w d/\(∀x,a.h x=x):=by
 let l:=(List.range w.heap.size).filter λb=>@decide (F b) (Classical.propDecidable _)
 have v:∀b,b∈l↔b<w.heap.size/\F b:=λb=>by simp[l]
 have B:l.Nodup:=List.Pairwise.filter _ List.nodup_range;obtain⟨d,a,j,G,s,t,D,H,K,N⟩:=restrict (F:=fam) w l B (λb p=>(c.d b ((v b).1 p).2).1) c.f (λb p=>by obtain⟨-,o,C,M⟩:=c.d b ((v b).1 p).2;exact⟨o,C,M.a λr _ n=>(v r).2 ⟨c.j n,n⟩⟩)
 have k:∀x,F x->7<=a.i x/\a.i x<d.heap.size:=λx z=>by
  obtain⟨i,E⟩:=Kp.1 ((v x).2 ⟨c.j z,z⟩);have e:=t i x E;have I:=(ym.1 E).1;have L:a.i x=fam.gs+5+i:=by rw[<-e,a.a]
  have A:fam.gs+5=7:=rfl;rw[L,s,A];omega
 refine⟨d,a,j,G,bR c.g λx z=>D x z,⟨⟨j.e,j.d,j.c,j.a,j.os,λi q=>by rw[K,N]⟩,G,j.g,j.b⟩,λr u n=>?_,k,λr o n C=>?_,H⟩;have A:fam.gs+5=7:=rfl;rw[s,A]at n;obtain⟨b,p⟩:∃b,l[r-7]?=some b:=⟨_,yh ω⟩;have e:=t (r-7) b p;rw[A,show 7+(r-7)=r by omega]at e;rw[e];exact((v b).1 (yy p)).2;obtain⟨u,m⟩:=k r n;have y:=j.e (a.i r) _ u (yl m);rw[a.c,C]at y;have O:(d.heap[a.i r]'m).pm a=o:=by injection y with y;exact y.symm
 show d.heap[a.i r]?=_;rw[yl m,obj_back O]
def PC(w:Δ)(F:ϑ)(b:Nat)(h:Hd)(kn:List (Υ))(ms:List Codec.Msg)(evs:List Ev)(snt:List bC):Prop:=∃F1:ϑ,(∀x,F1 x->F x)/\PX w F1 b h kn ms evs snt/\Cl w F1
variable {b:Nat}{h:Hd}{kn:List (Υ)}{ms:List Codec.Msg}{evs:List Ev}{snt:List bC}
def PC.d(p:PC w F b h kn ms evs snt){F':ϑ}(f:∀x,F x->F' x):PC w F' b h kn ms evs snt:=by obtain⟨d,e,c⟩:=p;exact⟨d,λx a=>f x (e x a),c⟩
def PC.c(p:PC w F b h kn ms evs snt)(a:Below w w w'):PC w' F b h kn ms evs snt:=by obtain⟨e,f,d,c⟩:=p;exact⟨e,f,d.e a,c.i a⟩
end
section
variable {w w':Δ}{F:ϑ}{b:Nat}{h:Hd}{kn:List (Υ)}{ms:List Codec.Msg}{evs:List Ev}{snt:List bC}
end
open Go.ChangeMaps(setBlock)
variable{i:Nat}{F:ϑ}{snt:List bC}
section
structure vj where
 b:List (Υ)
 c:List Codec.Msg
 a:List Ev
def cZ(i n win:Nat):Hd:=⟨i,n,win,false,false,false,0,gD n,0,0,0,0,sN,.pointer none,sN⟩
structure GA(w:Δ)(gb pb n win lim:Nat)(bl:Nat->Nat)(Fp:Nat->ϑ)(Fn:ϑ)(st:Nat->vj)(pl:List bC)(nv:Θ):Prop where
 d:cY w Fn gb (sT pb n n) lim pl nv
 f:af w pb 102 ((List.range n).map λi=>Value.pointer (some ⟨bl i,0,none⟩)).toArray
 e:∀i,i<n->PX w (Fp i) (bl i) (cZ i n win) (st i).b (st i).c (st i).a []
 ok:∀i,i<n->Ok (cZ i n win) (st i).b (st i).c (st i).a/\∀m∈(st i).c,Codec.aK m=true
 dis:∀i j x,i<n->j<n->Fp i x->Fp j x->i=j
 c:∀i x,i<n->Fp i x->¬Fn x
 b:∀i,i<n->¬Fp i gb/\¬Fp i pb
 p:¬Fn gb/\¬Fn pb
 k:gb≠pb
 q:∀i x,i<n->Fp i x->x<w.heap.size
 g:∀x,Fn x->x<w.heap.size
 h:∀i,i<n->Cl w (Fp i)
 l:7<=gb/\7<=pb
 o:∀x,Fn x->7<=x
def L3(gb pb n:Nat)(Fp:Nat->ϑ)(Fn:ϑ):ϑ:=λx=>x=gb\/x=pb\/Fn x\/∃i,i<n/\Fp i x
def GX(w:Δ)(FG:ϑ)(gb n win lim:Nat)(st:Nat->vj)(pl:List bC):Prop:=
 ∃pb bl Fp Fn nv,GA w gb pb n win lim bl Fp Fn st pl nv/\∀x,L3 gb pb n Fp Fn x->FG x
variable {w w':Δ}{gb pb n win lim:Nat}{bl:Nat->Nat}{Fp:Nat->ϑ}{Fn:ϑ}{st:Nat->vj}{pl:List bC}{nv:Θ}
def vu(i n a:Nat):xH (cZ i n a):=λb=>by simp[cZ]
end
variable {w w':Δ}{gb pb win lim:Nat}{bl:Nat->Nat}{Fp:Nat->ϑ}{Fn:ϑ}{st:Nat->vj}{pl:List bC}{nv:Θ}{FG:ϑ}{pl':List bC}{nv':Θ}
def mu(i:Nat)(f:Option Addr)(c:Nat)(h:ε w gb 0 (.slice f n c))(g:i<n):ϖ 64 #[pT gb 0,J i] w λe d=>ϱ e (.bool true)/\d=w:=by have b:0<=i:=ω;have a:i<n:=ω;go_enter func64,ntmps64;go_wp21;go_ret;exact⟨rfl,rfl⟩
variable {w1 w2:Δ}{pl1:List bC}



variable{evs:List Ev}
def vI(l:List Ev):(az l).length=l.length*6:=by
 induction l with
 |nil=>rfl
 |cons e l a=>
  rw[az,List.flatMap_cons,yC,<-az,a,yx];show 6+_=_;omega
def qH(g c:Nat)(a:List Ev)(w:Δ)(m:∀j u,(az a)[j]?=some u->ε w g j u)(z:a.length<=300000000000):ϖ 107 #[sT g a.length c] w λe h=>∃v,ϱ e v/\h.ownsRow w 64 6 v a.length (az a)/\Below w w h:=by
 obtain⟨p,s,l,o,i⟩:=info_parts mw;have q:Hid ((w.alloc (.cells #[] 64)).ownsRow w 64 6 (sT w 0 0) 0 []):=⟨rfl,.inr ⟨_,_,#[],rfl,yb _,heap_alloc_new w _,yb _,oI _,rfl,rfl⟩⟩;have r:=ah λj u f=>(((yi w.heap.size w).alloc (yb _) (.cells #[] 64)).cell (p:=(aT g j)) (yI w _ (m j u f))).trans (m j u f);have t:=ah (vI a);have k:=λh:Δ=>Lib.run_eql_slice_nil h 35 64 (some ⟨g,0,none⟩) a.length c 0 0 underlying35;simp only[Option.isNone_some]at k;clear m;go_enter func107,ntmps107;go_wp2_with (at_builtin;refine wpList_append_own_at _ rfl _ _ 35 rfl _ 64 p _ 6 56 underlying35 s l o i rfl θ _ _ _ rfl q.out _ _ c (az a) rfl ?c0 ?c1 ?c2 ?c3 ?c4 ?c5 ?_)
 case c0=>rw[t.out]
 case c1=>intro j u f;rw[lu];exact r.out j u f
 case c2=>
  intro u b;rw[az,Km]at b;obtain⟨e,-,b⟩:=b;simp only[Ev.f,yF,List.mem_nil_iff,or_false]at b;rcases b with rfl|rfl|rfl|rfl|rfl|rfl<;>rfl
 case c3=>unfold maxLen;omega
 case c4=>omega
 case c5=>simp
 intro v B y d _ _;go_wp2;go_ret;refine⟨v,rfl,?_,?_⟩;simpa using y;exact((yi _ _).alloc (yb _) _).trans ⟨d.os,d.tape,d.output,d.size,λx A=>d.block x (by simp;omega) λe=>by injection e with e;simp at e;omega⟩
def qG(w:Δ):ϖ 107 #[sN] w λe a=>ϱ e (sN)/\a=w:=by have b:=λa:Δ=>Lib.run_eql_slice_nil a 35 64 none 0 0 0 0 underlying35;simp only[Option.isNone_none]at b;go_enter func107,ntmps107;go_wp21;go_ret;exact⟨rfl,rfl⟩
def vC{v:Θ}(r:eB w F 64 6 v evs.length (az evs))(i:evs.length<=300000000000):ϖ 107 #[v] w λe d=>∃f,ϱ e f/\d.ownsRow w 64 6 f evs.length (az evs)/\Below w w d:=by
 rcases r.d.2 with ⟨k,a⟩|⟨g,c,l,a,-⟩;rw[k];refine(qG w).mono ?_;rintro e d⟨rfl,rfl⟩;refine⟨_,rfl,?_,yi _ _⟩;have:=List.length_eq_zero_iff.1 a;rw[this];exact y9 _ _ _ _;have b:v.ownBlock=some g:=by rw[a];rfl
 rw[a];exact qH g c evs w (λj u h=>by have:=r.d.cells b j u h;rwa [lu]at this) i
def BW{b:Nat}{h:Hd}{x:List (Υ)}{l:aL}{c:List bC}{t m:Nat}{f:List Nat}{s:Array MapEntry}{d:Nat}{o q:Θ}(p:PA w F b h x l evs c t m f s d o q)(r:evs.length<=300000000000):ϖ 66 #[pT b 0] w λe j=>∃k,ϱ e k/\j.ownsRow w 64 6 k evs.length (az evs)/\Below w w j:=by have i:=ah (vC p.c r);have a:=p.a.a 17 _ rfl;simp only[Hd.c,yf,yd,ye]at a;clear p;go_enter func66,ntmps66;go_wp21;refine i.out.mono ?_;rintro e y⟨v,rfl,g⟩;have u:Hid _:=g;clear g i;go_wp21;go_ret;exact⟨v,rfl,u.out⟩
variable {b:Nat}{h:Hd}{kn:List (Υ)}{l:aL}{kb mb:Nat}{rbs:List Nat}{es:Array MapEntry}{clk:Nat}{ev sv:Θ}

def bB(n:Nat):vj:=⟨List.replicate n (List.replicate n 0),[],[]⟩
def rZ{n i:Nat}(a:i<n):(bB n).b.getD i []=List.replicate n 0:=by rw[bB,yj,yaW,if_pos a];rfl
def vB{n:Nat}{cs:Array Θ}{rbs:List Nat}{f:Nat->Θ}(a:cs.size=n)(d:rbs.length=n)(h:∀(q r:Nat),rbs[q]?=some r->cs[q]?=some (f r)):(rbs.map f).toArray=cs:=by apply Array.ext;simp[a,d];intro q e c;have b:q<rbs.length:=ω;have:=h q _ (yh b);rw[yl c]at this;simp at this;simp[this]
def zu(p n B:Nat)(w:Δ)(hn:n<=6):ϖ 69 #[J p,J n,J B] w λe P=>∃b,ϱ e (pT b 0)/\PX P (λx=>w.heap.size<=x/\x<P) b (cZ p n B) (bB n).b (bB n).c (bB n).a []/\Below w w P:=by
 have b1:=EO n hn;have b5:=λu:Δ=>run_makeMap_plain (P:=prog) u 156;obtain⟨i0,hi,b6,b7,b4⟩:=info_parts vR;go_enter func69,ntmps69;go_upto_region 1 with fail;go_cut [7] (λs Z=>∃b v D,s=pT b 0/\w.heap.size<=b/\w.heap.size<=v/\w.heap.size<=D/\af Z b 159 #[J p,J n,J B,.bool false,.bool false,.bool false,J 0,J (gD n),J 0,J 0,J 0,J 0,sN,.pointer none,
  sT v n n,.map (some D),sN,sN,sN]/\Z.heap[D]?=some _/\af Z v 69 _/\Below _ w Z)
 case first=>
  go_region_held3 (λ_=>True) (trivial) (first|(go_at_call 108;refine(ml n _ hn).mono ?_;rintro e P⟨rfl,rfl⟩))
  all_goals (go_wp2_with fail;go_meet)
  all_goals first
   | (obtain ⟨t1,t2,t3,t4⟩:=Fa w _ _ _
      exact⟨_,_,_,rfl,ω,ω,ω,t3,t1,t2,t4.drew⟩)
   | (obtain ⟨t1,t2,t3,t4⟩:=Fa w _ _ _
      exact⟨_,_,_,rfl,ω,ω,ω,t3,t2,t1,t4.drew⟩)
 case rest=>
  obtain⟨b,v,D,rfl,a5,V,a2,A,M,O,d⟩:=hcut;have F:=A.a 14 _ rfl;simp only[yf,yd,ye]at F;go_wp2;go_loopw [24] (λi wr=>∃k:Nat,k<=n/\i=J k/\af wr b 159 #[J p,J n,J B,.bool false,.bool false,.bool false,J 0,J (gD n),J 0,J 0,J 0,J 0,sN,.pointer none,sT v n n,.map (some D),sN,sN,sN]/\wr.heap[D]?=some (.map #[] 0)/\Below w w wr/\
   ∃N:Array Θ,af wr v 69 N/\N.size=n/\∃f:List Nat,f.length=k/\f.Nodup/\(∀r∈f,w.heap.size<=r/\af wr r 3 (ints (List.replicate n 0)).toArray)/\∀(q r:Nat),f[q]?=some r->N[q]?=some (Value.slice (some ⟨r,0,none⟩) n n)) λi _=>n-(intOf i).toNat
  case atStart=>exact⟨0,ω,rfl,A,M,d,_,O,ς,[],rfl,List.nodup_nil,λr z=>absurd z yU,λq r C=>absurd C ς⟩
  case round=>
   clear A M O d F;obtain⟨k,hk,rfl,A,M,d,N,O,X,f,L,H,a,c⟩:=hrel;have F:=A.a 14 _ rfl;simp only[yf,yd,ye]at F;by_cases b2:k<n
   .have c0:(0:Int)<=(k:Int):=Int.natCast_nonneg _;have a9:(k:Int)<(n:Int):=ω;have b3:=Ap n hn;obtain⟨u,hu⟩:∃u,N[k]?=some u:=⟨_,yl (show k<N.size by omega)⟩;have Y:=A.g (.cells (ints (List.replicate n 0)).toArray 3);have E:=O.g (.cells (ints (List.replicate n 0)).toArray 3);have q1:=E.a k u hu;have q2:=E.b k;have a8:Hid (af wr b 159 _):=A;have t:Hid (af _ b 159 _):=Y;have HK2d:Hid (af _ v 69 _):=E;have G:Hid (wr.heap[D]?=some (.map #[] 0)):=M;have I:Hid (f.Nodup/\(∀r∈f,w.heap.size<=r/\af wr r 3 (ints (List.replicate n 0)).toArray)/\∀(q r:Nat),f[q]?=some r->N[q]?=some (Value.slice (some ⟨r,0,none⟩) n n)):=⟨H,a,c⟩;clear A O Y E M a hu H c;go_upto_region 5 with fail;refine gl.b (λP=>ε P b 14 (sT v n n)) 8 κ (a8.out.i.a 14 _ rfl) λo=>?_;(iterate 6 refine χ ?_);refine te 6 λK S=>?_;go_simp;refine S.out _ _ (λ_=>t.out.i.a 14 _ rfl) λ_=>?_;clear S K o;have o:=t.out.i.a 14 _ rfl;simp only[yf,yd,ye]at o;try simp only[pU]
    refine tw 7 ?_;refine te 8 λK S=>?_;go_simp;refine S.out _ _ (λh=>absurd rfl h) λ_=>?_;clear S K;try simp only[pU]
    refine gl.done κ ?_ _;go_wp2_with fail;go_roundw
    case rel=>
     have R:b≠v:=fU t.out HK2d.out θ;have U:D≠v:=λe=>by have hh:=HK2d.out;have a0:(wr.alloc (.cells (ints (List.replicate n 0)).toArray 3)).heap[D]?=some (.map #[] 0):=(yQ _ _ _ (yk.1 G.out).1).trans G.out;exact FX hh a0 e.symm
     have b8:=d.size;refine⟨k+1,ω,by go_num,(t.out.h R _ _).i,?_,((d.alloc ω _).trans (((ej.d v _).a k _).c V)).drew,N.setIfInBounds k _,(HK2d.out.e k _).i,by simpa using X,f++[wr.heap.size],by simp[L],?_,λr z=>?_,λq r C=>?_⟩;exact(yT _ _ _ _ U).trans ((yQ _ _ _ (yk.1 G.out).1).trans G.out);rw[GZ];refine⟨I.out.1,ς,λx Q y hy e=>?_⟩;rw[yu]at hy;have:=(I.out.2.1 x Q).2.f;omega;rcases yz.1 z with z|z;obtain⟨h2,h3⟩:=I.out.2.1 r z;have W:=h3.g (.cells (ints (List.replicate n 0)).toArray 3);exact⟨h2,(W.h (fU W HK2d.out θ) _ _).i⟩;rw[yu]at z;subst z;have W:=af.d wr wr.heap.size rfl 3 (ints (List.replicate n 0)).toArray;exact⟨ω,(W.h (fU W HK2d.out θ) _ _).i⟩;rcases Fs q k with a3|a3;rw[y7 ω]at C;rw[yP ω];exact I.out.2.2 q r C;rw[Fl ω]at C;have a1:q=k:=by have:=(ym.1 C).1;simp at this;omega
     subst a1;rw[L,Nat.sub_self]at C;obtain rfl:wr.heap.size=r:=by simpa using C
     rw[yR ω]
    case measure=>simp[intOf];omega
   have T:k=n:=ω;have b0:¬(k:Int)<(n:Int):=ω;have HF:Hid (∃b',b'=b/\PX wr (λx=>w.heap.size<=x/\x<wr) b' (cZ p n B) (bB n).b (bB n).c (bB n).a []):=by
    refine⟨b,rfl,[],rfl,v,D,f,#[],0,sN,sN,A,⟨L.trans T,I2 ..,H,?_,λq r l C hl=>?_⟩,M,⟨rfl,rfl,List.nodup_nil,λe he=>absurd he yU⟩,List.Pairwise.nil,λx Q=>absurd Q yU,⟨y9 _ _ _ _,λg hg=>by cases hg⟩,⟨y9 _ _ _ _,λg hg=>by cases hg⟩,⟨a5,A.f⟩,⟨V,O.f⟩,⟨a2,(yk.1 M).1⟩,λr z=>⟨(a r z).1,(a r z).2.f⟩⟩;show af wr v 69 (f.map λr=>Value.slice (some ⟨r,0,none⟩) n n).toArray;rw[vB X (L.trans T) c];exact O;obtain⟨b9,a7⟩:=ym.1 hl;have a6:List.replicate n (0:Int)=l:=by simpa[bB]using a7
    rw[<-a6];exact⟨I2 ..,(a r (yy C)).2⟩
   have a4:Hid (Below w w wr):=d;clear A M O a d H c;go_wp2;go_ret;obtain⟨b',rfl,Q⟩:=HF.out;exact⟨b',rfl,Q,a4.out⟩
variable {k L:Nat}{cs:Array Θ}{lo hi:Nat->Nat}
section
def EE:(prog.info? 102).map (λi=>(i.zero,i.size,i.bytes))=some (some (.pointer none),1,8):=κ
def Gt(n:Nat)(g:n<=6)(u:Δ):(Instr.makeSlice 93 (J n) (J n)).run prog u=.ok (sT u n n) (u.alloc (.cells (Array.replicate n (Value.pointer none)) 102)):=by
 obtain⟨c,e,a,b,f⟩:=info_parts EE;have h:=run_make u 93 102 c _ underlying93 e a .i64 .i64 _ n ω (Ld _) ν ω;rw[CM]at h;have d:madeCells (Value.pointer none).cells (n*c.size)=(Array.replicate n (Value.pointer none)):=by rw[b,Nat.mul_one];apply Array.ext';rw[show (Value.pointer none).cells=#[Value.pointer none] from rfl,toList_madeCells_one];simp
 rw[d]at h;exact h
def Ho(w:Δ)(a b d c:Obj):((((w.alloc a).alloc b).alloc d).alloc c).heap[w.heap.size]?=some a/\((((w.alloc a).alloc b).alloc d).alloc c).heap[w.heap.size+1]?=some b/\((((w.alloc a).alloc b).alloc d).alloc c).heap[w.heap.size+1+1]?=some d/\((((w.alloc a).alloc b).alloc d).alloc c).heap[w.heap.size+1+1+1]?=some c/\Below w w ((((w.alloc a).alloc b).alloc d).alloc c):=by obtain⟨h,g,f,e⟩:=Fa _ b d c;have i:(w.alloc a)=w.heap.size+1:=ς;rw[i]at h g f e;exact⟨(e.block _ ω).trans (heap_alloc_new w a),h,g,f,((yi _ _).alloc (yb _) a).trans (e.mono ω)⟩
variable {w w':Δ}{gb pb n win lim:Nat}{bl:Nat->Nat}{Fp:Nat->ϑ}{Fn:ϑ}{st:Nat->vj}{pl:List bC}{nv:Θ}{FG:ϑ}
theorem EU{i n:Nat}(a:Nat)(c:i<n)(e:n<=6):Ok (cZ i n a) (bB n).b (bB n).c (bB n).a/\∀m∈(bB n).c,Codec.aK m=true:=by refine⟨⟨λm b=>absurd b yU,λq d=>?_,?_⟩,λm b=>absurd b yU⟩;rw[show (bB n).b.getD (cZ i n a).a []=List.replicate n 0 from rZ c,yj,yaW];grind;rw[show (bB n).b.getD (cZ i n a).a []=List.replicate n 0 from rZ c];simp only[bB,wK,List.map_replicate,List.sum_replicate_nat,yD];grind
def PC.a{F:ϑ}{b:Nat}{h:Hd}{l:List (Υ)}{i:List Codec.Msg}{c:List Ev}{a:List bC}(p:PC w F b h l i c a)(j:∀x,F x->w'.heap[x]?=w.heap[x]?)(e:∀x,x<7->w'.heap[x]?=w.heap[x]?)(f:w.heap.size<=w'):PC w' F b h l i c a:=by obtain⟨o,g,q,m⟩:=p;exact⟨o,g,q.c λx d _=>j x (g x d),m.c (λx d=>j x (g x d)) e f⟩
def EY(p n d:Nat)(w:Δ)(N:n<=6)(D:Tabs w)(F:7<=w.heap.size):ϖ 69 #[J p,J n,J d] w λe C=>∃b,ϱ e (pT b 0)/\PC C (λx=>w<=x/\x<C) b (cZ p n d) (bB n).b (bB n).c (bB n).a []/\Below w w C:=by
 have c:Cl w (λ_=>False):=⟨D,F,λx h=>h.elim⟩;obtain⟨z,R,t,T,E,O,q,-,-,-⟩:=c.e;have Q:=Nat.le_of_not_lt λy=>q 7 (yb _) y;have M:=frame_calls progOk leafLaw O E D rfl rfl (λv I=>by
  intro U _;simp at I;rcases I with rfl|rfl|rfl<;>simp) (zu p n d z N) (λe K A=>by
  grind)
 have l:(#[Value.int .i64 p,J n,J d].map (Value.pm R))=#[J p,J n,J d]:=ς;rw[l]at M;refine M.mono ?_;rintro e K⟨v,H,j,rfl,⟨b,G,S,-⟩,a,-⟩;injection G with G;subst G;have B:Loose fam j H K:=⟨a.d.c,a.d.g,a.d.d,a.d.e,a.d.os,λf=>by rw[a.e.1];exact t.g f,a.e.2.2.trans t.b⟩;have m:=λx h=>a.j x h λr A u _=>q r A u;have s:∀r,(z.heap.size<=r/\r<H)->7<=r:=λr h=>by have:7<=z.heap.size:=t.c;omega
 refine⟨j.f b,by simp[Addr.pm],⟨λx=>∃r,7<=r/\r<H.heap.size/\j.f r=x,λx h=>?_,?_,Cl.a B a.m (bR D λx h=>m x ω)⟩,⟨a.d.os.trans (a.os.trans t.os.symm),a.o,a.q,a.l,m⟩⟩;obtain⟨r,A,u,rfl⟩:=h;exact⟨a.k r ω u,a.d.k u⟩;exact(S.a (λr o h P=>a.d.c r o (s r h) P) (vu p n d)).d λx h=>⟨j.i x,s _ h,h.2,j.c x⟩
structure FM(w:Δ)(L k n win:Nat)(cs:Array Θ)(bl lo hi:Nat->Nat):Prop where
 c:∀q,q<k->cs[q]?=some (.pointer (some ⟨bl q,0,none⟩))
 b:∀q,q<k->L<=lo q
 a:∀q,q<k->hi q<=w.heap.size
 e:∀q r,q<r->r<k->hi q<=lo r
 d:∀q,q<k->PC w (λx=>lo q<=x/\x<hi q) (bl q) (cZ q n win) (bB n).b (bB n).c (bB n).a []
def EZ(f:Nat->Nat)(k v:Nat):Nat->Nat:=λq=>if q=k then v else f q
def eL(f:Nat->Nat)(k v:Nat):EZ f k v k=v:=if_pos rfl
def fP(f:Nat->Nat){q:Nat}(v:Nat)(h:q<k):EZ f k v q=f q:=if_neg ω
def FM.f{x d:Nat}{c:Δ}(m:FM w L k n win cs bl lo hi)(s:k<cs.size)(o:L<=w)(p:d<L)(j:7<=d)(i:Below w w c)(t:PC c (λy=>w<=y/\y<c) x (cZ k n win) (bB n).b (bB n).c (bB n).a [])(v:Θ)(l:v=pT x 0):FM (c.setCell ⟨d,k,none⟩ v) L (k+1) n win (cs.setIfInBounds k v) (EZ bl k x) (EZ lo k w) (EZ hi k c):=by
 subst l;have a:=(ej.d d c).a k (Value.pointer (some ⟨x,0,none⟩));refine⟨λq f=>?_,λq f=>?_,λq f=>?_,λq r b u=>?_,λq f=>?_⟩;rcases Fs q k with h|h;rw[fP _ _ h,yP ω];exact m.c q h;obtain rfl:q=k:=ω;rw[eL,yR s];rcases Fs q k with h|h;rw[fP _ _ h];exact m.b q h;obtain rfl:q=k:=ω;rw[eL];exact o;rw[a.size];rcases Fs q k with h|h;rw[fP _ _ h];exact yr (m.a q h) i.size;obtain rfl:q=k:=ω;rw[eL];omega;rcases Fs r k with h|h;rw[fP _ _ h,fP _ _ (show q<k by omega)];exact m.e q r b h;obtain rfl:r=k:=ω;rw[eL,fP _ _ b];exact m.a q b;rcases Fs q k with h|h;rw[fP _ _ h,fP _ _ h,fP _ _ h];have z:=m.b q h;exact((m.d q h).c i).a (λy e=>a.block y ω) (λy e=>a.block y ω) ς;obtain rfl:q=k:=ω;rw[eL,eL,eL];exact t.a (λy e=>a.block y ω) (λy e=>a.block y ω) ς
def FM.g(m:FM w L n n win cs bl lo hi)(z:n<=6)(F:gb<L)(B:pb<L)(s:7<=gb/\7<=pb)(o:gb≠pb)(y:af w gb 97 #[sT pb n n,J lim,sN])(A:af w pb 102 cs)(p:cs.size=n):∃e:Nat->ϑ,(∀q x,q<n->e q x->lo q<=x/\x<hi q)/\GA w gb pb n win lim bl e (λ_=>False) (λ_=>bB n) [] (sN):=by
 have t:∀q,∃f:ϑ,q<n->(∀x,f x->lo q<=x/\x<hi q)/\PX w f (bl q) (cZ q n win) (bB n).b (bB n).c (bB n).a []/\Cl w f:=λq=>by
  by_cases l:q<n
  obtain⟨f,d⟩:=m.d q l;grind;simp[*]
 obtain⟨e,b⟩:=Classical.axiomOfChoice t;refine⟨e,λq x l c=>(b q l).1 x c,?_⟩;refine⟨⟨y,y9 _ _ _ _,λg E=>by cases E⟩,?_,λi hi=>(b i hi).2.1,λi hi=>EU win hi z,λi j x hi v c C=>?_,λi x hi c h=>h,λi hi=>?_,⟨id,id⟩,o,λi x hi c=>?_,λx c=>c.elim,λi hi=>(b i hi).2.2,s,λx c=>c.elim⟩;rw[vB p ς λq r D=>?_];exact A;obtain⟨d,u⟩:=ym.1 D;simp at d u;subst u;exact m.c q d;have d:=(b i hi).1 x c;have u:=(b j v).1 x C;rcases Ks i j with h|h|h;have:=m.e i j h v;omega;exact h;have:=m.e j i h hi;omega;have:=m.b i hi;grind;have d:=(b i hi).1 x c;have:=m.a i hi;omega
def Ge(n b c:Nat)(w:Δ)(h:(1<=n/\n<=6)/\(1<=b/\b<=8)/\1<=c/\c<=4000)(hT:Tabs w)(D:7<=w.heap.size):ϖ 38 #[.agg #[J n,J b,J c]] w λe f=>∃g,e=.returned (.tuple #[pT g 0,J 0])/\GX f (λx=>w.heap.size<=x) g n b c (λ_=>bB n) []/\Below w w f:=by
 obtain⟨⟨h1,h2⟩,⟨h3,h4⟩,h5,h6⟩:=h;have hn:n<=6:=ω;have k1:¬n<1:=ω;have k2:¬6<n:=ω;have k3:¬b<1:=ω;have k4:¬8<b:=ω;have k5:¬c<1:=ω;have k6:¬4000<c:=ω;have b3:=Gt n hn;have M:Hid (∀f,Below w w f->Tabs f/\7<=f.heap.size):=λf hb=>⟨bR hT λx U=>hb.block x ω,yr D hb.size⟩;have H:=ah D;go_enter func38,ntmps38;go_upto_region 3 with fail;go_cut [4] λs T=>∃g m,s=pT g 0/\w.heap.size<=g/\w.heap.size<=m/\af T g 97 #[sT m n n,J c,sN]/\af T m 102 _/\af T w.heap.size 23 #[J n,J b,J c]/\Below w w T
 case first=>
  go_region_held3 (λf=>f.cell? (aT w 0)=some (J n)/\f.cell? (aT w 2)=some (J c)) (simp[go_sem,World.cell?_alloc_past]) (first|(go_at_call 68;refine(zt c _).m ?_;rintro f rfl))
  all_goals (go_wp2_with fail;go_meet)
  all_goals first
   | (obtain ⟨t0,t1,t2,t3,Y⟩:=Ho w (.cells #[J n,J b,J c] 23) (.cells #[J c,sN] 95) (.cells (Array.replicate n (Value.pointer none)) 102) (.cells #[.slice (some ⟨w.heap.size+1+1,0,none⟩) n n,J c,sN] 97)
      exact⟨w.heap.size+1+1+1,w.heap.size+1+1,rfl,ω,ω,t3,t2,t0,Y.drew⟩)
   | (obtain ⟨t0,t1,t2,t3,Y⟩:=Ho w (.cells #[J n,J b,J c] 23) (.cells (Array.replicate n (Value.pointer none)) 102) (.cells #[J c,sN] 95) (.cells #[.slice (some ⟨w.heap.size+1,0,none⟩) n n,J c,sN] 97)
      exact⟨w.heap.size+1+1+1,w.heap.size+1,rfl,ω,ω,t3,t1,t0,Y.drew⟩)
 case rest=>
  obtain⟨g,m,rfl,a4,C,p,v,z,d⟩:=hcut;have c0:=p.y 0;simp at c0;obtain⟨L,hL⟩:∃L,L=wc.heap.size:=⟨_,rfl⟩;have N:g<L:=by rw[hL];exact p.f
  have P:m<L:=by rw[hL];exact v.f
  have O:w.heap.size<L:=by rw[hL];exact z.f
  have B:g≠m:=fU p v θ;have S:w.heap.size≠m:=fU z v θ;go_wp2_with fail;go_loopw [47] (λi wr=>∃k:Nat,k<=n/\i=J k/\L<=wr/\af wr g 97 #[sT m n n,J c,sN]/\af wr w.heap.size 23 #[J n,J b,J c]/\Below w w wr/\
   ∃F:Array Θ,af wr m 102 F/\F.size=n/\∃bl lo hi,FM wr L k n b F bl lo hi) λi _=>n-(intOf i).toNat
  case atStart=>exact⟨0,ω,rfl,ω,p,z,d,_,v,ς,λ_=>0,λ_=>0,λ_=>0,⟨λq E=>ω,λq E=>ω,λq E=>ω,λq r _ E=>ω,λq E=>absurd E (Nat.not_lt_zero _)⟩⟩
  case round=>
   clear p v z d c0;obtain⟨k,hk,rfl,G,p,z,d,F,v,a7,bl,lo,hi,a⟩:=hrel;by_cases b1:k<n
   .have b2:(0:Int)<=(k:Int):=(by omega);have b0:(k:Int)<(n:Int):=ω;have a1:=ah p;have Z:=ah z;have a2:=ah v;have l:=ah d;have a8:=ah a;have HS:Hid (∀f,Below L wr f->f.cell? (aT g 0)=some (sT m n n)/\f.cell? (aT w 0)=some (J n)/\f.cell? (aT w 1)=some (J b)):=λf X=>⟨(p.c X N).a 0 _ rfl,(z.c X O).a 0 _ rfl,(z.c X O).a 1 _ rfl⟩;clear p z v d a;go_upto_region 7 with fail;refine gl.b (λf=>f.cell? (aT g 0)=some (sT m n n)/\f.cell? (aT w 0)=some (J n)/\f.cell? (aT w 1)=some (J b)) 12 κ (HS.out _ (yi _ _).drew) λt=>?_;(iterate 10 refine χ ?_);refine te 10 λK I=>?_;go_simp;refine(EY k n b _ hn (M.out _ l.out.drew).1 (M.out _ l.out.drew).2).mono ?_;rintro e V⟨x,rfl,U,a5⟩;have j:Below wr wr V:=(yi _ _).drew.trans a5;have a3:PC V (λy=>wr.heap.size<=y/\y<V) x (cZ k n b) (bB n).b (bB n).c (bB n).a []:=U.d λy hy=>by simp_all
    go_wp2_with fail;refine I.out _ _ (λ_=>HS.out _ (j.mono G)) λ_=>?_;clear I K t;have t:=HS.out _ (j.mono G);obtain⟨u,hu⟩:∃u,F[k]?=some u:=⟨_,yl (show k<F.size by omega)⟩;have A:=a2.out.c j ω;have q1:=A.a k u hu;have q2:=A.b k;have Q:=ah A;clear A hu;refine tw 11 ?_;refine te 12 λK I=>?_;go_simp;refine I.out _ _ (λh=>absurd rfl h) λ_=>?_;clear I K;refine gl.done κ ?_ _;go_wp2_with fail;go_roundw
    case rel=>
     have b5:=j.size;have R:=(ej.d m V).a k (Value.pointer (some ⟨x,0,none⟩));refine⟨k+1,ω,by go_num,?_,?_,?_,?_,F.setIfInBounds k _,Q.out.e k _,ν,_,_,_,a8.out.f ω G P (yr H.out C) j a3 _ rfl⟩;rw[R.size];omega;exact(a1.out.c j ω).h B _ _;exact(Z.out.c j ω).h S _ _;exact(l.out.trans (j.mono l.out.size)).trans (R.c C)
    case measure=>simp[intOf];omega
   have a0:k=n:=ω;have a9:¬(k:Int)<(n:Int):=ω;subst a0;have HF:Hid (∃W,W=g/\GX wr (λx=>w.heap.size<=x) W k b c (λ_=>bB k) []):=by obtain⟨Fp,b4,a6⟩:=a.g hn N P ⟨yr H.out a4,yr H.out C⟩ B p v a7;refine⟨g,rfl,m,bl,Fp,_,_,a6,λy hy=>?_⟩;rcases hy with h|h|h|⟨q,E,h⟩;omega;omega;grind;have h1:=a.b q E;grind
   have l:=ah d;clear p z v a d;go_wp2;go_ret2;obtain⟨W,rfl,U⟩:=HF.out;exact⟨W,rfl,U,l.out⟩
end
end
section
open Go.RowKit
open Go.ChangeMaps (setBlock)
variable {w w':Δ}{F:ϑ}{pl:List bC}{base lb n:Nat}{vs:Array Θ}{v' v:Θ}{c:Nat->List ByteArray}
def jC(cur:Array Θ):Prop:=∀u∈cur.toList,∃s,u=Value.string s
def Cw(k:Nat):jC (Builtin.zeroCells (Value.string ⟨#[]⟩).cells k):=by intro u a;simp only[Builtin.zeroCells,yV,yW]at a;obtain⟨i,-,rfl⟩:=a;refine⟨⟨#[]⟩,?_⟩;show (#[Value.string _])[i%1]! =_;grind
section
variable {P:Program}(w:Δ)
def vt(t K:TypeId)(C:Nat)(e:TypeId)(i:TypeInfo)(m:Nat)(Q:P.underlying t=some (.slice e))(S:P.info? e=some i)(T:i.zero=some (.string ⟨#[]⟩))(O:i.size=1)(N:i.bytes=m)(v:Θ)(n:Nat)(D:List Θ)(l:w.ownsRow C e 1 v n D)(G:Addr)(c:Nat)(s:ByteArray)(f:∀j u,[Value.string s][j]?=some u->w.cell? (G.add j)=some u)(M:n+1<=maxLen)(q:(n+1)*m<=140737488355328)(x:∀g b,v.ownBlock=some g->w.heap[g]?=some (.cells b e (0,0))->jC b){U:Δ}(B:(Builtin.append_ #[t,t] K #[v,.slice (some G) 1 c]).run P w=.ok v' U):∀g b e' Z,v'.ownBlock=some g->U.heap[g]?=some (.cells b e' Z)->jC b:=by
 subst N;have W:n+1<=9223372036854775807:=by simp only[maxLen]at M;omega
 have L:∀u∈D,∃s,u=Value.string s:=by rcases l.2 with ⟨-,r⟩|⟨g,o,b,r,-,I,-,-,-,E⟩;have h1:=l.1;grind;intro u d;rw[<-E]at d;exact x g b (by rw[r];rfl) I u ν
 have h:∀(z:List Θ)(k:Nat),(∀u∈z,∃s,u=Value.string s)->jC (z.toArray++[Value.string s].toArray++Builtin.zeroCells (Value.string ⟨#[]⟩).cells k):=λz k ho u d=>by
  simp only[Array.toList_append,yz]at d;rcases d with (d|d)|d;grind;grind
  exact Cw k u d
 intro R V e2 a0 A p;rcases l.2 with ⟨rfl,rfl⟩|⟨g,o,b,rfl,-,I,X,-,Y,E⟩
 .rw[(run_append_nil w t K e i _ Q S T G 1 c _ ν f ω ω ω)]at B;injection B with e1 e3;subst e1 e3;obtain rfl:w=R:=by simpa[Value.ownBlock]using A
  have a:=heap_alloc_new w.drew (.cells ([Value.string s].toArray++Builtin.zeroCells (Value.string ⟨#[]⟩).cells (grownCap w 1 0 e-1)) e);rw[show w.drew.heap.size=w from rfl,p]at a;simp at a;rw[a.1];have:=h [] (grownCap w 1 0 e-1) ς;simpa using this
 by_cases y:n+1<=o
 .rw[(run_append_room (P:=P) w t K e i Q S g n o b I G 1 c [.string s] ν f (by intro u d;simp at d;subst d;rfl) y ν)]at B;injection B with e1 e3;subst e1 e3;obtain rfl:g=R:=by simpa[Value.ownBlock]using A
  rw[setRow_heap w g b _ e _ I]at p;simp only[yA,Obj.cells.injEq]at p;rw[<-p.1];intro u d;simp only[yz]at d;rcases d with (d|d)|d;grind;grind
  exact(x g b rfl I) u ν
 rw[(run_append_grow (P:=P) w t K e i _ Q S T ⟨g,0,none⟩ n o D ν (l.cells (g:=g) rfl) G 1 c [.string s] ν f ω ω (growslice_fits ω q))]at B;injection B with e1 e3;subst e1 e3;obtain rfl:w=R:=by simpa[Value.ownBlock]using A
 have a:=heap_alloc_new w.drew (.cells (D.toArray++[Value.string s].toArray++Builtin.zeroCells (Value.string ⟨#[]⟩).cells (grownCap w (n+1) o e-(n+1))) e);rw[show w.drew.heap.size=w from rfl,p]at a;simp only[yA,Obj.cells.injEq]at a;rw[a.1];exact h D _ L
def ns{z:Array Oper}{o:Oper}{a:Act}{K:Act->Ξ}{Q:Exit->Act->Ξ}{E:Prop}(I:o.guard=none)(N x:Operand)(t:TypeId)(X:o.op=.call {callee:=.builtin .append,args:=#[N,x],argTypes:=#[t,t]})(b:Nat)(e:TypeId)(i:TypeInfo)(k:Nat)(S:P.underlying t=some (.slice e))(T:P.info? e=some i)(R:i.zero=some (.string ⟨#[]⟩))(l:i.size=1)(B:i.bytes=k)(v:Θ)(n:Nat)(D:List Θ)(Z:a.eval N=v)(q:w.ownsRow b e 1 v n D)(G:Addr)(c:Nat)(s:ByteArray)(Y:a.eval x=.slice (some G) 1 c)(m:∀j u,[Value.string s][j]?=some u->w.cell? (G.add j)=some u)(A:n+1<=maxLen)(f:(n+1)*k<=140737488355328)(r:b<=w)(H:Nat)(W:w=H)(C:∀g d,v.ownBlock=some g->w.heap[g]?=some (.cells d e (0,0))->jC d)(h:∀g p y,y.ownsRow b e 1 (sT g (n+1) p) (n+1) (D++[.string s])->w.grownBy y v.ownBlock->(v.ownBlock=some g\/g=H)->g<y->(∀d M L,y.heap[g]?=some (.cells d M L)->jC d)->K (a.put o.dst (sT g (n+1) p)) y):if Region.wanted o (yielded z a.tmps)=true then Oper.wp P o a w K Q else E:=by
 have V:Region.wanted o (yielded z a.tmps)=true:=by simp[Region.wanted,I]
 rw[if_pos V];obtain⟨g,p,y,O,h2,h3,h4,h5⟩:=run_append_lies w t o.type b e i _ 1 _ S T R l B rfl θ v n D q G 1 c _ rfl m (by intro u U;simp at U;subst U;rfl) ω A f r H W;unfold Oper.wp execOp;simp only[X,resolve,invoke,builtin,Sem.run_bind,Sem.run_pure,Result.andThen_ok,Fj,yN,Cx,Z,Y,O];exact h g p y h2 h3 h4 h5 λd M L hc=>vt w t _ b e i _ S T R l B v n D q G c s m A f C O g d M L rfl hc
end
structure CF(w:Δ)(base lb n:Nat)(vs:Array Θ)(c:Nat->List ByteArray):Prop where
 a:af w lb 151 vs
 size:vs.size=n
 f:base<=lb
 b:∀j v,j<n->vs[j]?=some v->w.ownsRow base 9 1 v (c j).length ((c j).map Value.string)
 dis:∀i j v u g,i<n->j<n->vs[i]?=some v->vs[j]?=some u->v.ownBlock=some g->u.ownBlock=some g->i=j
 flat:∀j v g cur e fz,j<n->vs[j]?=some v->v.ownBlock=some g->w.heap[g]?=some (.cells cur e fz)->jC cur
def vq(c:Nat->List ByteArray)(j:Nat)(s:ByteArray):Nat->List ByteArray:=λq=>if q=j then c j++[s] else c q
def lD{m:Nat}{h:List Θ}(f:w.ownsRow base 9 1 v m h)(k:af w lb 151 vs):some lb≠v.ownBlock:=by
 intro e;rcases f.2 with ⟨b,-⟩|⟨g,j,l,b,-,a,-⟩;rw[b]at e;cases e;rw[b]at e;have i:lb=g:=by simpa[Value.ownBlock]using e
 subst i;rw[k]at a;grind
def CF.d(h:CF w base lb n vs c)(f:Below w w w'):CF w' base lb n vs c:=
 ⟨h.a.c f h.a.f,h.size,h.f,λj v a b=>aj (h.b j v a b) λg d=>f.block g ((h.b j v a b).lt g d).2,h.dis,λj v g i e k a b d l=>h.flat j v g i e k a b d (by rw[<-f.block g ((h.b j v a b).lt g d).2];exact l)⟩
def CF.h{j g cap:Nat}{s:ByteArray}{C:Δ}(h:CF w base lb n vs c)(E:j<n)(G:vs[j]?=some v)(B:w.grownBy C v.ownBlock)(L:v.ownBlock=some g\/w<=g)(K:v'=sT g ((c j).length+1) cap)(p:C.ownsRow base 9 1 v' ((c j).length+1) ((c j).map Value.string++[.string s]))(N:∀r e H,C.heap[g]?=some (.cells r e H)->jC r):CF (C.setCell ⟨lb,j,none⟩ v') base lb n (vs.setIfInBounds j v') (vq c j s):=by
 have t:af C lb 151 vs:=(B.block lb h.a.f (lD (h.b j v E G) h.a)).trans h.a;have A:∀k,v'.ownBlock=some k->k=g:=λk e=>by rw[K]at e;simpa[Value.ownBlock]using e.symm
 have o:∀{x:Nat},x≠lb->(C.setCell ⟨lb,j,none⟩ v').heap[x]?=C.heap[x]?:=λY=>yT _ _ _ _ Y;have f:∀q u,q<n->(vs.setIfInBounds j v')[q]?=some u->(q=j/\u=v')\/(q≠j/\vs[q]?=some u):=λq u l i=>by grind
 refine⟨t.e j _,by simpa using h.size,h.f,λq u l i=>?_,λa b u R k V W i O Z d=>?_,λq u k r e H l i d I=>?_⟩;rcases f q u l i with ⟨rfl,rfl⟩|⟨m,i⟩;have X:vq c q s q=c q++[s]:=if_pos rfl;rw[X,yC,y8];refine aj p λk d=>o λe=>?_;exact lD p t ν;rw[show vq c j s q=c q from if_neg m];refine aj (h.b q u l i) λk d=>?_;rw[o λe=>lD (h.b q u l i) h.a ν];exact B.block k (((h.b q u l i).lt k d).2) λe=>m (h.dis q j u v k l E i G d e.symm)
 .have U:∀q z,q<n->q≠j->vs[q]?=some z->z.ownBlock=some g->False:=λq z l m Q D=>by rcases L with S|S;exact m (h.dis q j z v g l E Q G D S);have:=((h.b q z l Q).lt g D).2;omega
  rcases f a u V i with ⟨rfl,rfl⟩|⟨m,M⟩<;>rcases f b R W O with ⟨rfl,rfl⟩|⟨T,P⟩;rfl;grind;grind
  exact h.dis a b u R k V W M P Z d
 rcases f q u l i with ⟨rfl,rfl⟩|⟨m,i⟩;rw[o λe=>lD p t ν,A k d]at I;exact N r e H I;rw[o λe=>lD (h.b q u l i) h.a ν,B.block k (((h.b q u l i).lt k d).2) λe=>m (h.dis q j u v k l E i G d e.symm)]at I;exact h.flat q u k r e H l i d I
def eC(pl:List bC)(j:Nat):List ByteArray:=(pl.filter λx=>decide (x.1=(j:Int))).map (·.2)
def xZ(a:List bC)(j:Nat)(s:ByteArray):eC (a++[((j:Int),s)])=vq (eC a) j s:=by funext q;unfold eC vq;grind
def Gm:(prog.info? 9).map (λi=>(i.zero,i.size,i.bytes))=some (some (.string ⟨#[]⟩),1,16):=κ
def EF:(prog.info? 151).map (λi=>(i.zero,i.size,i.bytes))=some (some (sN),1,24):=κ
def EP(n:Nat)(i:n<=6)(u:Δ):(Instr.makeSlice 100 (J n) (J n)).run prog u=.ok (sT u n n) (u.alloc (.cells (Array.replicate n (Value.slice none 0 0)) 151)):=by
 obtain⟨d,f,a,b,g⟩:=info_parts EF;have h:=run_make u 100 151 d (sN) underlying100 f a .i64 .i64 n n ω (Ld _) ν ω;rw[CM]at h;have e:madeCells (Value.slice none 0 0).cells (n*d.size)=(Array.replicate n (Value.slice none 0 0)):=by rw[b,Nat.mul_one];apply Array.ext';rw[show (Value.slice none 0 0).cells=#[Value.slice none 0 0] from rfl,toList_madeCells_one];simp
 rw[e]at h;exact h
def CF.k(w:Δ)(n:Nat):CF (w.alloc (.cells (Array.replicate n (Value.slice none 0 0)) 151)) w w n (Array.replicate n (Value.slice none 0 0)) (eC []):=by
 have a:∀{j:Nat}{v:Θ},(Array.replicate n (Value.slice none 0 0))[j]?=some v->v=sN:=λ{j v}h=>by grind
 refine⟨af.d w _ rfl 151 _,ς,yb _,λj v f d=>?_,λi j v u g q f d o b k=>?_,λj v g l e m f d b p=>?_⟩;rw[a d];exact y9 _ _ _ _;rw[a d]at b;cases b;rw[a d]at b;cases b
def Co(n:Nat)(hn:n<=6)(ao:Option Addr)(vc:Nat)(r:eB w F 111 2 (.slice ao pl.length vc) pl.length (ar pl))(hl:pl.length<=1000000)(a8:∀x∈pl,∃j:Nat,j<n/\x.1=(j:Int)):ϖ 61 #[.slice ao pl.length vc,J n] w λe z=>ϱ e (sT w n n)/\Below w w z/\∃A,CF z w w n A (eC pl):=by
 obtain⟨i0,b8,c3,b5,b4⟩:=info_parts Gm;have c6:=EP n hn;have H0:=ah (CF.k w n);have P:Hid (Below w w (w.alloc (.cells (Array.replicate n (Value.slice none 0 0)) 151))):=(yi _ _).alloc (yb _) _;have D:Hid (∀(k:Nat)wr,k<pl.length->Below w w wr->∃(g j:Nat)(s:ByteArray),ao=some ⟨g,0,none⟩/\j<n/\wr.cell? ⟨g,k*2,none⟩=some (J j)/\wr.cell? ⟨g,k*2+1,none⟩=some (.string s)/\pl.take (k+1)=pl.take k++[((j:Int),s)]):=λk wr hk hb=>by obtain⟨g,O,Y,-,a3,c0,c1,-⟩:=kt r (yh hk);obtain⟨j,hj,hx⟩:=a8 _ (AF hk);injection Y with h1 h2 h3;refine⟨g,j,pl[k].2,h1,hj,(hb.cell (p:=⟨g,k*2,none⟩) a3).trans ν,(hb.cell (p:=⟨g,k*2+1,none⟩) a3).trans c1,?_⟩;rw[Lc,yh hk,<-hx];rfl
 go_enter func61,ntmps61;go_wp2_with fail;generalize w.alloc _=w1 at H0 P⊢;go_loopw [12] (λi wr=>∃k:Nat,k<=pl.length/\i=J k/\Below _ w wr/\∃A,CF wr _ _ n A (eC (pl.take k))) λi _=>pl.length-(intOf i).toNat
 case atStart=>exact⟨0,ω,rfl,P,_,H0⟩
 case round=>
  obtain⟨k,hk,rfl,f,A,L⟩:=hrel;by_cases b3:k<pl.length
  .obtain⟨g,j,s,rfl,hj,c0,c1,b0⟩:=D.out k wr b3 f;have c5:0<=k:=ω;have a9:k<pl.length:=ω;have c4:0<=j:=ω;have c8:j<n:=ω;have Q:=ah f;have q:=ah L;go_upto_region 5 with fail;have M:Hid (Below wr wr (wr.alloc (.cells #[J j,.string s] 111))):=(yi _ _).alloc (yb _) _;have hX:=af.d wr _ rfl 111 #[J j,.string s];have u:Hid ((wr.alloc (.cells #[J j,.string s] 111))=wr.heap.size+1):=by simp[Hid]
   obtain⟨v,Y⟩:∃v,A[j]?=some v:=⟨_,yl (show j<A.size by have:=q.out.size;omega)⟩;have l:=q.out.b j v hj Y;obtain⟨vo,I,a4⟩:=bG l;have b7:(eC (pl.take k) j).length<=1000000:=by unfold eC;rw[yL];refine yr (G3 _ _) ?_;rw[xk];omega
   have HS:Hid (∀z,Below (wr.heap.size+1) (wr.alloc (.cells #[J j,.string s] 111)) z->ε z w j v/\ε z wr 0 (J j)/\ε z wr 1 (.string s)):=λz hw=>⟨((q.out.d (M.out.trans (hw.mono ω))).a).a j v Y,(hX.c hw ω).a 0 _ rfl,(hX.c hw ω).a 1 _ rfl⟩;have HV:=ah Y;generalize b9:wr.alloc (.cells #[J j,.string s] 111)=B at M u HS⊢;generalize R:(eC (pl.take k) j).length=m at a4 b7 l;have o:=ah l;have E:=ah R;subst a4;refine gl.b (λz=>ε z w j (.slice vo m I)/\ε z wr 0 (J j)/\ε z wr 1 (.string s)) 13 rfl (HS.out _ (yi _ _).drew) λhHeld=>?_;(iterate 10 refine χ ?_);refine te 10 λK C=>?_;go_simp;have y:Hid (Below B B (B.alloc (.cells #[.string s] 9)).drew):=((yi _ _).alloc (yb _) _).drew;refine C.out _ _ (λ_=>HS.out _ (y.out.mono (by rw[u.out];omega))) λhHeld=>?_;have HE:Hid (af (B.alloc (.cells #[.string s] 9)).drew B 9 #[.string s]):=(af.d B B rfl 9 _).i;have N:Hid ((B.alloc (.cells #[.string s] 9)).drew=B.heap.size+1):=by simp[Hid]
   generalize (B.alloc (.cells #[.string s] 9)).drew=w4 at y HE N hHeld⊢;have t:Hid (Below wr wr w4):=M.out.trans (y.out.mono (by rw[u.out];omega));refine te 11 λK C=>?_;have p:=q.out.d t;refine ns w4 rfl (.tmp 23) (.tmp 26) 151 rfl w 9 i0 16 underlying151 b8 c3 b5 b4 (.slice vo m I) m ((eC (pl.take k) j).map Value.string) rfl (aQ o t) (aT B 0) 1 s rfl (IZ HE) (by simp[maxLen];omega) ω (by have:=Q.out.size;have:=t.out.size;omega) (B.heap.size+1) N (λg c2 hg hc=>p.flat j _ g c2 _ _ hj HV hg hc) ?_;intro g2 O V W d Z b1 U;have H:=p.h (s:=s) hj HV d (g:=g2) (cap:=O) (Z.imp id λe=>by have:=N.out;omega) (by rw[E.out]) (by rw[E.out];exact W) U;rw[<-xZ,<-(ah b0).out]at H;have a0:∀x,(Value.slice vo m I).ownBlock=some x->w<=x/\x<wr:=λx hx=>o.out.lt x hx;have b2:=Q.out.size;have a1:=t.out.size;have X:=lD o q.out.a;have S:af V w 151 A:=(d.block _ p.a.f X).trans p.a;have a6:Hid (ε V w j (.slice vo m I)/\ε V wr 0 (J j)/\ε V wr 1 (.string s)):=by
    have h4:=HS.out _ (y.out.mono (by rw[u.out];omega));have a2:wr.heap.size<w4:=by have:=y.out.size;rw[u.out]at this;omega
    have nx:some wr.heap.size≠(Value.slice vo m I).ownBlock:=λe=>ν;exact⟨(d.cell_far ⟨w.heap.size,j,none⟩ p.a.f X).trans h4.1,(d.cell_far ⟨wr.heap.size,0,none⟩ a2 nx).trans h4.2.1,(d.cell_far ⟨wr.heap.size,1,none⟩ a2 nx).trans h4.2.2⟩
   have a5:Below w w V:=(Q.out.trans (t.out.mono b2)).trans ⟨d.os,d.tape,d.output,d.size,λx hx=>d.block x ω λe=>by grind⟩;have G:Hid (Below w w (V.setCell ⟨w.heap.size,j,none⟩ (sT g2 (m+1) O))/\∃A,CF (V.setCell ⟨w.heap.size,j,none⟩ (sT g2 (m+1) O)) w.heap.size w.heap.size n A (eC (pl.take (k+1)))):=⟨a5.trans (((ej.d w.heap.size V).a j _).c (yb _)),_,H⟩;have c7:=S.b j;refine C.out _ _ (λ_=>a6.out) λhHeld=>?_;have hHeld:=hHeld θ;refine te 12 λK C=>?_;go_simp;refine C.out _ _ (λ_=>a6.out) λhHeld=>?_;have hHeld:=hHeld θ;refine te 13 λK C=>?_;go_simp;refine C.out _ _ (λh=>absurd rfl h) λ_=>?_;refine gl.done κ ?_ _;go_wp2_with fail;go_roundw
   case rel=>exact⟨k+1,ω,by go_num,G.out⟩
   case measure=>simp[intOf];omega
  have a9:¬(k:Int)<(pl.length:Int):=ω;have b6:k=pl.length:=ω;have G:Hid (Below w w wr/\∃A,CF wr w.heap.size w.heap.size n A (eC pl)):=⟨f,A,by rw[b6,AE]at L;exact L⟩;go_wp2_with fail;go_ret;exact⟨rfl,G.out⟩
def bw(c:Int)(n:Nat):Nat:=((if c<0 then -(c+1) else c)%(n:Int)).toNat
def cM(c:Int){n:Nat}(d:1<=n):bw c n<n:=by unfold bw;have b:=Int.emod_lt_of_pos (if c<0 then -(c+1) else c) (show (0:Int)<n by omega);have a:=Int.emod_nonneg (if c<0 then -(c+1) else c) (show (n:Int)≠0 by omega);omega
def fO(c:Int)(n:Nat)(w:Δ)(l:-9223372036854775808<=c/\c<=9223372036854775807)(m:1<=n)(i:n<=1000000):ϖ 34 #[J c,J n] w λe k=>ϱ e (J (bw c n))/\k=w:=by
 have a:(n:Int)≠0:=ω;have f:¬(n:Int)=-1:=ω;unfold bw;by_cases h:c<0
 .have g:wrap64 (c+1)=c+1:=by unfold wrap64;omega
  have j:wrap64 (-(c+1))=-(c+1):=by unfold wrap64;omega
  have d:0<=-(c+1):=ω;have b:Hid (-(c+1).tmod n=(((-(c+1))%(n:Int)).toNat:Int)):=by unfold Hid;rw[<-Int.neg_tmod,Int.tmod_eq_emod_of_nonneg d];have:=Int.emod_nonneg (-(c+1)) a;omega
  rw[if_pos h];go_enter func34,ntmps34;go_wp21;go_ret;refine⟨?_,rfl⟩;show Ending.returned (J _)=_;rw[b.out]
 rw[if_neg h];go_enter func34,ntmps34;go_wp21;go_ret;refine⟨?_,rfl⟩;show Ending.returned (J _)=Ending.returned _;rw[Int.max_eq_left (Int.emod_nonneg c a)]
def xU(s:ByteArray)(n:Nat):ByteArray:=if n<s.size then s.extract 0 n else s
def BQ(s:ByteArray)(n:Nat):(xU s n).size<=n:=by unfold xU;split;rw[ByteArray.size_extract];omega;omega
def Iy(s:ByteArray)(n:Nat)(w:Δ):ϖ 58 #[.string s,J n] w λe b=>ϱ e (.string (xU s n))/\b=w:=by
 unfold xU;by_cases h:n<s.size
 .have a:n<s.size:=ω;rw[if_pos h];go_enter func58,ntmps58;go_wp21;go_ret;exact⟨rfl,rfl⟩
 have a:¬n<s.size:=ω;rw[if_neg h];go_enter func58,ntmps58;go_wp21;go_ret;exact⟨rfl,rfl⟩
def Iz(e:Ev):Θ:=.agg #[J e.b,J e.a,J e.d,J e.seq,J e.c,.string e.e]
def dv(e:Ev):Bool:=decide (e.b=1\/e.b=2)
def lC(e:Ev)(w:Δ):ϖ 36 #[Iz e] w λr d=>ϱ r (.bool (dv e))/\Below w w d:=by
 obtain⟨k,v,s,q,m,t⟩:=e;unfold Iz dv;have c:=(af.d w _ rfl 64 #[J k,J v,J s,J q,J m,.string t]).a 0 _ rfl;simp only[yf,yd]at c;by_cases b:k=1
 .go_enter func36,ntmps36;go_wp21;go_ret;exact⟨by simp[b],(yi _ _).alloc (yb _) _⟩
 by_cases a:k=2
 .go_enter func36,ntmps36;go_wp21;go_ret;exact⟨by simp[a],(yi _ _).alloc (yb _) _⟩
 go_enter func36,ntmps36;go_wp21;go_ret;exact⟨by simp[b,a],(yi _ _).alloc (yb _) _⟩
def cA(a b:Ev):Bool:=decide (a.a=b.a/\a.d=b.d/\a.seq=b.seq)
def qi(a b:Ev)(w:Δ):ϖ 67 #[Iz a,Iz b] w λr x=>ϱ r (.bool (cA a b))/\Below w w x:=by
 obtain⟨q,i,c,j,m,n⟩:=a;obtain⟨t,h,k,g,s,o⟩:=b;unfold Iz cA;have f:=(af.d w _ rfl 64 #[J q,J i,J c,J j,J m,.string n]).g (.cells #[J t,J h,J k,J g,J s,.string o] 64);have d:=af.d (w.alloc (.cells #[J q,J i,J c,J j,J m,.string n] 64)) (w.heap.size+1) ς 64 #[J t,J h,J k,J g,J s,.string o];have A:=f.a 1 _ rfl;have z:=f.a 2 _ rfl;have B:=f.a 3 _ rfl;have v:=d.a 1 _ rfl;have u:=d.a 2 _ rfl;have y:=d.a 3 _ rfl;simp only[yf,yd,ye]at A z B v u y;clear f d;by_cases e:i=h
 .by_cases l:c=k
  .by_cases p:j=g
   .go_enter func67,ntmps67;go_wp21;go_ret;exact⟨by simp[e,l,p],((yi _ _).alloc (yb _) _).alloc ς _⟩
   go_enter func67,ntmps67;go_wp21;go_ret;exact⟨by simp[e,l,p],((yi _ _).alloc (yb _) _).alloc ς _⟩
  go_enter func67,ntmps67;go_wp21;go_ret;exact⟨by simp[e,l],((yi _ _).alloc (yb _) _).alloc ς _⟩
 go_enter func67,ntmps67;go_wp21;go_ret;exact⟨by simp[e],((yi _ _).alloc (yb _) _).alloc ς _⟩
def pL:∀{l:List Ev}{k:Nat}{e:Ev},l[k]?=some e->∀i,i<6->(az l)[k*6+i]?=e.f[i]?
 |[],k,e,h=>by cases h
 |y::l,0,e,h=>by simp only[AH,yA]at h;subst h;intro i a;rw[show az (y::l)=y.f++az l from rfl,y7 (by show _<6;omega)];congr 1;omega
 |y::l,k+1,e,h=>by intro i a;have:=pL (by simpa using h) i a;rw[show az (y::l)=y.f++az l from rfl,Fl (by show 6<=_;omega),<-this];congr 1;show (k+1)*6+i-6=_;omega
def jU{w:Δ}{c:Nat}{v:Θ}{l:List Ev}(r:w.ownsRow c 64 6 v l.length (az l)){k:Nat}{e:Ev}(h:l[k]?=some e):∃g a,v=sT g l.length a/\w.cell? ⟨g,k*6,none⟩=some (J e.b)/\w.cell? ⟨g,k*6+1,none⟩=some (J e.a)/\w.cell? ⟨g,k*6+2,none⟩=some (J e.d)/\w.cell? ⟨g,k*6+3,none⟩=some (J e.seq)/\w.cell? ⟨g,k*6+4,none⟩=some (J e.c)/\w.cell? ⟨g,k*6+5,none⟩=some (.string e.e):=by
 have j:=(ym.1 h).1;rcases r.2 with ⟨-,f⟩|⟨g,a,o,f,-⟩;omega;have d:v.ownBlock=some g:=by rw[f];rfl
 have b:=λi u n m=>by have:=r.cells d _ u ((pL h i n).trans m);rwa [lu]at this
 exact⟨g,a,f,b 0 _ ω rfl,b 1 _ ω rfl,b 2 _ ω rfl,b 3 _ ω rfl,b 4 _ ω rfl,b 5 _ ω rfl⟩
variable {l:List Ev}{e:Ev}
def gC(l:List Ev)(e:Ev):Int:=if l.findIdx (λx=>dv x&&cA x e)<l.length then (l.findIdx λx=>dv x&&cA x e) else -1
def Er(h:∀x∈l,(dv x&&cA x e)=false):gC l e=-1:=by unfold gC;rw[if_neg];rw[List.findIdx_lt_length];rintro⟨x,b,a⟩;rw[h x b]at a;cases a
def rR{x:Ev}{k:Nat}(d:l[k]?=some x)(b:(dv x&&cA x e)=true)(h:∀x∈l.take k,(dv x&&cA x e)=false):gC l e=k:=by
 obtain⟨a,c⟩:=ym.1 d;have:l.findIdx (λx=>dv x&&cA x e)=k:=by rw[List.findIdx_eq a];refine⟨by rw[c];exact b,λj f=>h _ ?_⟩;rw[List.mem_take_iff_getElem];exact⟨j,ω,rfl⟩
 unfold gC;rw[this,if_pos a]
def tL{t:Nat}(T:Option Addr)(Z:Nat)(l:List Ev)(e:Ev)(w:Δ)(r:w.ownsRow t 64 6 (.slice T l.length Z) l.length (az l))(hl:l.length<=300000000000):ϖ 37 #[.slice T l.length Z,Iz e] w λr a=>ϱ r (J (gC l e))/\Below w w a:=by
 obtain⟨b,f,d,c,j,m⟩:=e;have HR:Hid (∀a,Below w w a->a.ownsRow t 64 6 (.slice T l.length Z) l.length (az l)):=λa hb=>aj r λg hg=>hb.block g (r.lt g hg).2;have A:Hid (Below w w (w.alloc (.cells #[J b,J f,J d,J c,J j,.string m] 64))):=(yi _ _).alloc (yb _) _;have L:Hid (af (w.alloc (.cells #[J b,J f,J d,J c,J j,.string m] 64)) w.heap.size 64 #[J b,J f,J d,J c,J j,.string m]):=af.d w w.heap.size rfl 64 _;have Q:Hid ((w.alloc (.cells #[J b,J f,J d,J c,J j,.string m] 64)).heap.size=w.heap.size+1):=by simp[Hid]
 clear r;unfold Iz;go_enter func37,ntmps37;go_wp2_with fail;generalize w.alloc _=Y at A L Q⊢;go_loopw [5] (λi wr=>∃k:Nat,k<=l.length/\i=J k/\Below _ Y wr/\∀x∈l.take k,(dv x&&cA x ⟨b,f,d,c,j,m⟩)=false) λi _=>l.length-(intOf i).toNat
 case atStart=>exact⟨0,ω,rfl,yi _ _,λx N=>by simp at N⟩
 case round=>
  obtain⟨k,hk,rfl,o,I⟩:=hrel;have s:=ah o;have u:=ah I;have p:=ah (A.out.trans (o.mono A.out.size));clear o I;by_cases W:k<l.length
  .obtain⟨x,N⟩:∃x,l[k]?=some x:=⟨_,yh W⟩;have HX:=ah N;have HC:Hid (∀a,Below wr wr a->∃g,T=some ⟨g,0,none⟩/\a.cell? ⟨g,k*6,none⟩=some (J x.b)/\a.cell? ⟨g,k*6+1,none⟩=some (J x.a)/\a.cell? ⟨g,k*6+2,none⟩=some (J x.d)/\a.cell? ⟨g,k*6+3,none⟩=some (J x.seq)/\a.cell? ⟨g,k*6+4,none⟩=some (J x.c)/\a.cell? ⟨g,k*6+5,none⟩=some (.string x.e)):=λa C=>by obtain⟨g,a2,hv,a1⟩:=jU (HR.out a (p.out.trans (C.mono p.out.size))) N;injection hv with S;exact⟨g,S,a1⟩
   have HE:Hid (∀a,Below wr wr a->af a w.heap.size 64 #[J b,J f,J d,J c,J j,.string m]):=λa C=>L.out.c (s.out.trans (C.mono s.out.size)) (by rw[Q.out];omega);have HM:=ah λa=>lC x a;have H:=ah λa=>qi x ⟨b,f,d,c,j,m⟩ a;have a3:0<=k:=ω;have M:k<l.length:=ω;obtain⟨g,rfl,c0,c1,c2,c3,c4,U⟩:=HC.out wr (yi _ _);clear N HR;go_wp2_with fail;refine(HM.out _).mono ?_;rintro _ w1⟨rfl,R⟩;have v:=ah R;clear R c0 c1 c2 c3 c4 U;have V:Hid (∀a,Below wr wr a->a.cell? ⟨g,k*6,none⟩=some (J x.b)/\a.cell? ⟨g,k*6+1,none⟩=some (J x.a)/\a.cell? ⟨g,k*6+2,none⟩=some (J x.d)/\a.cell? ⟨g,k*6+3,none⟩=some (J x.seq)/\a.cell? ⟨g,k*6+4,none⟩=some (J x.c)/\a.cell? ⟨g,k*6+5,none⟩=some (.string x.e)/\ε a w 0 (J b)/\ε a w 1 (J f)/\ε a w 2 (J d)/\ε a w 3 (J c)/\ε a w 4 (J j)/\ε a w 5 (.string m)):=λa C=>by
    obtain⟨g',X,c0,c1,c2,c3,c4,U⟩:=HC.out a C;obtain rfl:g=g':=by injection X with S;injection S
    have F:=HE.out a C;exact⟨c0,c1,c2,c3,c4,U,F.a 0 _ rfl,F.a 1 _ rfl,F.a 2 _ rfl,F.a 3 _ rfl,F.a 4 _ rfl,F.a 5 _ rfl⟩
   clear HC HM HE;go_upto_region 5 with fail;refine gl.b (λa=>a.cell? _=some _/\a.cell? _=some _/\a.cell? _=some _/\a.cell? _=some _/\a.cell? _=some _/\a.cell? _=some _/\a.cell? _=some (J b)/\a.cell? _=some (J f)/\a.cell? _=some (J d)/\a.cell? _=some (J c)/\a.cell? _=some (J j)/\a.cell? _=some _) 6 rfl (V.out _ v.out.drew) λn=>?_;(iterate 5 refine χ ?_);refine te 5 λK P=>?_;go_simp;refine(H.out _).mono ?_;rintro _ w2⟨rfl,G⟩;have B:Hid (Below wr wr w2):=(v.out.drew).trans (G.mono (by have:=v.out.size;simpa using this));clear G;go_wp2_with fail;refine P.out _ _ (λ_=>V.out _ B.out) λn=>?_;clear P K;try simp only[pU]
   refine te 6 λK P=>?_;go_simp;refine P.out _ _ (λh=>absurd rfl h) λ_=>?_;clear P K n;try simp only[pU]
   refine gl.done κ ?_ _;have z:Hid (Below Y Y w2/\Below w w w2):=⟨s.out.trans (B.out.mono s.out.size),p.out.trans (B.out.mono p.out.size)⟩;clear V H;by_cases E:(dv x&&cA x ⟨b,f,d,c,j,m⟩)=true
   .have HF:=ah (rR HX.out E u.out);obtain⟨S,h2⟩:=Bool.and_eq_true_iff.1 E;rw[S,h2];go_wp2_with fail;go_ret;exact⟨by rw[HF.out];rfl,z.out.2⟩
   have O:Hid (∀y∈l.take (k+1),(dv y&&cA y ⟨b,f,d,c,j,m⟩)=false):=λy D=>by rw[Lc,HX.out]at D;rcases yz.1 D with D|D;exact u.out y D;rw[yu.1 D];simpa using E
   generalize dv x=bm at E⊢;generalize cA x ⟨b,f,d,c,j,m⟩=bs at E⊢;cases bm
   .go_wp2_with fail;go_roundw
    case rel=>exact⟨k+1,ω,by go_num,z.out.1,O.out⟩
    case measure=>simp[intOf];omega
   cases bs
   .go_wp2_with fail;go_roundw
    case rel=>exact⟨k+1,ω,by go_num,z.out.1,O.out⟩
    case measure=>simp[intOf];omega
   exact absurd rfl E
  have a0:k=l.length:=ω;have M:¬(k:Int)<(l.length:Int):=ω;have HF:Hid (gC l ⟨b,f,d,c,j,m⟩=-1):=Er (by have:=u.out;rwa [a0,AE]at this);go_wp2_with fail;go_ret;exact⟨by rw[HF.out];rfl,p.out⟩
open Md (PS Grp Book CG msgE keyE)
variable {a b:Ev}{k q:Nat}
section
def xR(q:Nat)(l:List Ev):Prop:=∀(i:Nat)(e:Ev),l[i]?=some e->dv e=true->gC l e=i/\(e.d=q↔e.b=1)
def eI:dv e=true↔msgE e:=by unfold dv msgE;exact decide_eq_true_iff
def ig:cA a b=true↔keyE a b:=by unfold cA keyE;exact decide_eq_true_iff
variable {C:List (Int×Codec.Msg)}{G:Grp}
end
end
section
open Md(PS Grp Book CG msgE keyE SG SI Gh PI2 wd EvJ Chn CI)
variable{G:Grp}{X:Gh}{n i j:Nat}{st:Nat->PS}{N:Codec.Frame->Prop}
def lS(v:Int)(e:Ev):Bool:=decide (e.b=3/\e.a=v)
def instR(l:List Ev)(v:Int):Int:=if l.findIdx (lS v)<l.length then (l.findIdx (lS v):Int) else -1
def og(a b:List Ev)(u:Int):Prop:=∀(i:Nat)(e:Ev),a[i]?=some e->dv e=true->e.a=u->∃(k:Nat)(x:Ev),b[k]?=some x/\gC b e=k/\x.e=e.e
def sY(a b:List Ev):Prop:=∀(i:Nat)(e:Ev),a[i]?=some e->e.b=3->instR b e.a=-1\/∃(k:Nat)(x:Ev),instR b e.a=k/\b[k]?=some x/\x.c=e.c/\og a b (e.a-1)/\og b a (e.a-1)
def rD(h:SI X n st N)(W:i<n)(V:j<n){a b:Ev}(T:a∈(st i).j)(U:b∈(st j).j)(g:msgE a)(f:msgE b)(k:keyE b a):b.e=a.e:=by
 have z:=h.a i W;have B:=h.a j V;obtain⟨w,l⟩:=List.getElem?_of_mem T;obtain⟨u,o⟩:=List.getElem?_of_mem U;have y:∀{q:Nat}(R:q<n){e:Ev}{s:Nat},(st q).j[s]?=some e->e.b=1->∀m,(e.a,m)∈X.C->m.a=e.d->m.seq=e.seq->e.e=m.b:=λ{q}R{e}{s}Y L m hm h1 h2=>by
  have P:=h.a q R;have S:=(P.a.b.h e (yy Y) (.inl L)).2 L;obtain⟨-,-,E,hc,-⟩:=P.a.b.f _ m hm (by rw[h1,S,P.num]);have:=P.a.b.d;rw[Lb]at this;obtain⟨D,p⟩:=ym.1 Y;obtain⟨F,r⟩:=ym.1 hc;have d:keyE (st q).j[s] (st q).j[E]:=by rw[p,r];exact⟨rfl,by rw[S,P.num],h2.symm⟩
  have I:msgE (st q).j[s]:=by rw[p];exact .inl L
  have H:msgE (st q).j[E]:=by rw[r];exact .inl rfl
  rcases Ks s E with c|M|c;grind;grind
  exact(this E s F D c H I ⟨d.1.symm,d.2.1.symm,d.2.2.symm⟩).elim
 rcases g with g|g<;>rcases f with f|f
 .have Z:=(z.a.b.h a T (.inl g)).2 g;have s2:=(B.a.b.h b U (.inl f)).2 f;have:i=j:=by rw[z.num]at Z;rw[B.num]at s2;have:=k.2.1;omega
  subst this;have:=z.a.b.d;rw[Lb]at this;obtain⟨D,p⟩:=ym.1 l;obtain⟨F,r⟩:=ym.1 o;rcases Ks w u with c|M|c;exact(this w u D F c (by rw[p];exact .inl g) (by rw[r];exact .inl f) (by rw[p,r];exact⟨k.1.symm,k.2.1.symm,k.2.2.symm⟩)).elim;grind;exact(this u w F D c (by rw[r];exact .inl f) (by rw[p];exact .inl g) (by rw[p,r];exact k)).elim
 obtain⟨m,v,x,t,A,-⟩:=B.a.b.g u b o f;rw[<-A];exact(y W l g m (by rw[<-k.1];exact v) (x.trans k.2.1) (t.trans k.2.2)).symm;obtain⟨m,v,x,t,A,-⟩:=z.a.b.g w a l g;rw[<-A];exact y V o f m (by rw[k.1];exact v) (x.trans k.2.1.symm) (t.trans k.2.2.symm);obtain⟨m,v,x,t,A,-⟩:=z.a.b.g w a l g;obtain⟨m',O,Q,K,a0,-⟩:=B.a.b.g u b o f;have:=h.c.g _ m' m O (by rw[k.1];exact v) (by rw[Q,x,k.2.1]) (by rw[K,t,k.2.2]);grind
def oo{l:List Ev}{e z:Ev}(d:z∈l)(f:msgE z)(c:keyE z e):∃(k:Nat)(x:Ev),l[k]?=some x/\gC l e=k/\msgE x/\keyE x e:=by
 have b:l.findIdx (λx=>dv x&&cA x e)<l.length:=by rw[List.findIdx_lt_length];exact⟨z,d,by rw[eI.2 f,ig.2 c];rfl⟩
 have a:=List.findIdx_getElem (w:=b);rw[yB]at a;exact⟨_,_,yh b,by unfold gC;omega,eI.1 a.1,ig.1 a.2⟩
def pO(h:SI X n st N)(o:i<n)(l:j<n){u:Nat}(K:(u:Int)<(st i).b)(z:(u:Int)<(st j).b):og (st i).j (st j).j u:=λk e I f b=>by have d:=h.a i o;have a:=yy I;obtain⟨m,c,C,-,H⟩:=d.e.a u K;obtain⟨Q,P,q,F,-⟩:=(h.a j l).e.a u z;rw[C]at q;cases q;obtain⟨s,g,p,M,-⟩:=d.a.b.src e a (eI.1 f);rw[d.c]at g;obtain⟨y,L,O,A,B,E⟩:=F s g _ M (H e a (eI.1 f) b s p);obtain⟨t,x,r,D,w,v⟩:=oo L O ⟨A.trans b.symm,B.trans p.symm,E⟩;exact⟨t,x,r,D,rD h o l a (yy r) (eI.1 f) w v⟩
def wi(h:SI X n st N)(f:i<n)(d:j<n):sY (st i).j (st j).j:=λk e s v=>by
 by_cases a:(st j).j.findIdx (lS e.a)<(st j).j.length
 .have b:=List.findIdx_getElem (w:=a);have p:=AF a;have l:=yh a;generalize (st j).j[(st j).j.findIdx _]=x at b p l;simp only[lS,decide_eq_true_eq]at b;refine .inr ⟨_,x,by unfold instR;omega,l,?_⟩;obtain⟨u,r,g,c,q⟩:=(h.a i f).e.inst e (yy s) v;obtain⟨t,y,o,w,m⟩:=(h.a j d).e.inst x p b.1;have:t=u:=by have:=b.2;omega
  subst this;rw[q,yA,CN]at m;rw[r,Int.add_sub_cancel];exact⟨m.1.symm,pO h f d g o,pO h d f o g⟩
 exact .inl (by unfold instR;omega)
end
section
open Go.RowKit
def CB(s:Int)(k:Nat):Md.aV s (k+1)=Md.aV (s/2) k:=by unfold Md.aV;rw[Int.pow_succ',Int.ediv_ediv_of_nonneg ω]
def xQ(s:Int)(q:Nat)(w:Δ)(g:Md.bj s)(j:q<64):Calls prog 44 #[J s,J q] w λe l=>ϱ e (.bool (Md.aV s q))/\l=w:=by
 go_wp2
 go_loop [0,1] (λa b=>∃(k:Nat)(z:Int),k<64/\0<=z/\z<64/\Md.aV s q=Md.aV z k/\a=J z/\b=J k) λ_ b=>(intOf b).toNat
 case atStart=>exact⟨q,s,j,g.1,g.2,rfl,rfl,rfl⟩
 case round=>
  obtain⟨k,z,h,m,n,f,rfl,rfl⟩:=hrel;have c:=ah f;clear f;match k,h,c with
  |0,_,c=>
   have d:Hid (Md.aV s q=(z%2==1)):=by rw[Hid,c.out];unfold Md.aV;rw[Bool.eq_iff_iff];simp
   go_wp2
   go_ret;exact⟨by rw[d.out];rfl,rfl⟩
  |i+1,h,c=>
   have d:Hid (Md.aV s q=Md.aV (z/2) i):=by rw[Hid,c.out,CB]
   go_wp2
   go_round
   case rel=>exact⟨i,_,ω,ω,ω,d,congrArg _ ω,by go_num⟩
   case measure=>simp[intOf]
def Bm(s:Int)(k:Nat):Nat:=((List.range k).filter (Md.aV s)).length
def z8(s:Int)(k:Nat):Bm s (k+1)=Bm s k+if Md.aV s k=true then 1 else 0:=by unfold Bm;rw[List.range_succ,La,yC];cases h:Md.aV s k<;>simp[h]
def xP(s:Int):∀k,Bm s k<=k
 |0=>yb _
 |k+1=>by rw[z8];have:=xP s k;split<;>omega
def Ct(s:Int)(w:Δ)(o:Md.bj s):ϖ 45 #[J s] w λe p=>ϱ e (J (Md.ir s))/\p=w:=by
 have i:=ah λq m=>xQ s q w o m;have j:=ah (xP s);have h:=ah (z8 s);go_enter func45,ntmps45;go_wp2_with fail;go_loop [3,4] (λa b=>∃k:Nat,k<=6/\a=J (Bm s k)/\b=J k) λ_ b=>6-(intOf b).toNat
 case atStart=>exact⟨0,ω,rfl,rfl⟩
 case round=>
  obtain⟨k,u,rfl,rfl⟩:=hrel;by_cases n:k<6
  .have r:=j.out k;have g:=ah (i.out k ω);have f:=h.out k;have c:=ah f;clear f i j h;go_wp2_with fail;refine g.out.m ?_;rintro v rfl;clear g;cases l:Md.aV s k with
   |true=>
    have d:Hid (Bm s (k+1)=Bm s k+1):=by rw[Hid,c.out,l];rfl
    clear c;go_wp2_with fail;go_round
    case rel=>exact⟨k+1,ω,by rw[d.out];go_num,by go_num⟩
    case measure=>simp[intOf];omega
   |false=>
    have d:Hid (Bm s (k+1)=Bm s k):=by rw[Hid,c.out,l];rfl
    clear c;go_wp2_with fail;go_round
    case rel=>exact⟨k+1,ω,by rw[d.out],by go_num⟩
    case measure=>simp[intOf];omega
  have t:¬(k:Int)<6:=ω;obtain rfl:k=6:=ω;go_wp2_with fail;go_ret;exact⟨rfl,rfl⟩
def zT{l f:Nat}(N o:Option Addr)(ac q:Nat)(a b:List Ev)(w:Δ)(ra:w.ownsRow l 64 6 (.slice N a.length ac) a.length (az a))(rb:w.ownsRow f 64 6 (.slice o b.length q) b.length (az b))(a2:a.length<=300000000000)(U:b.length<=300000000000)(u:Int)(h:og a b u):ϖ 30 #[.slice N a.length ac,.slice o b.length q,J u] w λr d=>ϱ r (.bool true)/\Below w w d:=by
 have K:Hid (∀d,Below w w d->d.ownsRow l 64 6 (.slice N a.length ac) a.length (az a)):=λd V=>aj ra λg hg=>V.block g (ra.lt g hg).2;have v:Hid (∀d,Below w w d->d.ownsRow f 64 6 (.slice o b.length q) b.length (az b)):=λd V=>aj rb λg hg=>V.block g (rb.lt g hg).2;have HH:=ah h;go_enter func30,ntmps30;go_wp2_with fail;go_loopw [7] (λi wr=>∃k:Nat,k<=a.length/\i=J k/\Below _ w wr) λi _=>a.length-(intOf i).toNat
 case atStart=>exact⟨0,ω,rfl,Below.refl _ _⟩
 case round=>
  obtain⟨k,hk,rfl,E⟩:=hrel;have c:=ah E;by_cases S:k<a.length
  .obtain⟨x,O⟩:∃x,a[k]?=some x:=⟨_,yh S⟩;have HX:=ah O;obtain⟨g,H,M,-⟩:=jU (K.out wr c) O;obtain rfl:N=some _:=by injection M
   clear M H;have s:Hid (∀d,Below wr wr d->d.cell? ⟨g,k*6,none⟩=some (J x.b)/\d.cell? ⟨g,k*6+1,none⟩=some (J x.a)/\d.cell? ⟨g,k*6+2,none⟩=some (J x.d)/\d.cell? ⟨g,k*6+3,none⟩=some (J x.seq)/\d.cell? ⟨g,k*6+4,none⟩=some (J x.c)/\d.cell? ⟨g,k*6+5,none⟩=some (.string x.e)):=λd R=>by
    obtain⟨g',H,M,Z⟩:=jU (K.out d (c.out.trans (R.mono c.out.size))) O;have:g=g':=by injection M with h1;injection h1 with h2;injection h2
    subst this;exact Z
   have HM:=ah (lC x wr);have Q:Hid (∀d,Below wr wr d->ϖ 37 #[.slice o b.length q,.agg #[J x.b,J x.a,J x.d,J x.seq,J x.c,.string x.e]] d λr n=>ϱ r (J (gC b x))/\Below d d n):=λd R=>tL o q b x d (v.out d (c.out.trans (R.mono c.out.size))) U;have a7:0<=k:=ω;have B:(k:Int)<(a.length:Int):=ω;obtain⟨Y,c1,c2,c3,W,L⟩:=s.out wr (Below.refl _ _);clear O;go_wp2_with fail;refine HM.out.m ?_;rintro G D;have e:=ah D;clear D Y c1 c2 c3 W L HM;obtain⟨Y,c1,c2,c3,W,L⟩:=s.out G e;by_cases P:dv x=true
   .by_cases I:x.a=u
    .obtain⟨j,y,T,C,z⟩:=HH.out k x HX P I;have a6:j<b.length:=(ym.1 T).1;have HY:=ah T;have a0:=ah z;have F:Hid (ϖ 37 #[.slice o b.length q,.agg #[J x.b,J x.a,J x.d,J x.seq,J x.c,.string x.e]] G λr n=>ϱ r (J j)/\Below G G n):=by have:=Q.out G e;rwa [C]at this
     clear T z C Q HH;subst I;rw[P];go_wp2_with fail;refine F.out.m ?_;rintro w2 A;have p:=ah (e.out.trans (A.mono e.out.size));obtain⟨g2,a1,t,-,-,-,-,-,d5⟩:=jU (v.out w2 (c.out.trans (p.out.mono c.out.size))) HY;obtain rfl:o=some ⟨g2,0,none⟩:=by injection t
     rw[a0.out]at d5;clear A Y c1 c2 c3 W L t F;obtain⟨-,-,-,-,-,L⟩:=s.out w2 p;have a4:(0:Int)<=(j:Int):=ω;have a5:(j:Int)<(b.length:Int):=ω;have a3:¬(j:Int)<0:=ω;clear s;go_wp2_with fail;go_quiet (fail);go_wp2_with fail;go_roundw
     case rel=>exact⟨k+1,ω,by go_num,below_drewN (c.out.trans (p.out.mono c.out.size)) _⟩
     case measure=>simp[intOf];omega
    rw[P];clear Q s;go_wp2_with fail;go_roundw
    case rel=>exact⟨k+1,ω,by go_num,c.out.trans (e.out.mono c.out.size)⟩
    case measure=>simp[intOf];omega
   have X:dv x=false:=by simpa using P
   rw[X];clear Q s;go_wp2_with fail;go_roundw
   case rel=>exact⟨k+1,ω,by go_num,c.out.trans (e.out.mono c.out.size)⟩
   case measure=>simp[intOf];omega
  have B:¬(k:Int)<(a.length:Int):=ω;go_wp2_with fail;go_ret;exact⟨rfl,c⟩
variable {l:List Ev}{v:Int}
def qz2(h:∀x∈l,lS v x=false):instR l v=-1:=by unfold instR;rw[if_neg];rw[List.findIdx_lt_length];rintro⟨x,b,a⟩;rw[h x b]at a;cases a
def qz1{x:Ev}{k:Nat}(d:l[k]?=some x)(b:lS v x=true)(h:∀x∈l.take k,lS v x=false):instR l v=k:=by
 obtain⟨a,c⟩:=ym.1 d;have:l.findIdx (lS v)=k:=by rw[List.findIdx_eq a];refine⟨by rw[c];exact b,λj e=>h _ ?_⟩;rw[List.mem_take_iff_getElem];exact⟨j,ω,rfl⟩
 unfold instR;rw[this,if_pos a]
def qz0{c:Nat}(p:Option Addr)(z:Nat)(a:List Ev)(v:Int)(w:Δ)(F:w.ownsRow c 64 6 (.slice p a.length z) a.length (az a))(G:a.length<=300000000000):ϖ 46 #[.slice p a.length z,J v] w λr m=>ϱ r (J (instR a v))/\Below w w m:=by
 have B:Hid (∀m,Below w w m->m.ownsRow c 64 6 (.slice p a.length z) a.length (az a)):=λm L=>aj F λg I=>L.block g (F.lt g I).2;go_enter func46,ntmps46;go_wp2_with fail;go_loopw [5] (λi wr=>∃k:Nat,k<=a.length/\i=J k/\Below _ w wr/\∀x∈a.take k,lS v x=false) λi _=>a.length-(intOf i).toNat
 case atStart=>exact⟨0,ω,rfl,Below.refl _ _,ς⟩
 case round=>
  obtain⟨k,N,rfl,f,u⟩:=hrel;have b:=ah f;have d:=ah u;by_cases s:k<a.length
  .obtain⟨x,o⟩:∃x,a[k]?=some x:=⟨_,yh s⟩;have E:=ah o;obtain⟨g,H,j,M,O,-⟩:=jU (B.out wr b) o;obtain rfl:p=some _:=by injection j
   have K:0<=k:=ω;have n:k<a.length:=ω;have t:Hid (lS v x=false->∀y∈a.take (k+1),lS v y=false):=λh y e=>by rw[Lc,E.out]at e;rcases yz.1 e with e|e;exact d.out y e;simp at e;subst e;exact h
   clear j o;by_cases D:x.b=3
   .by_cases j:x.a=v
    .have A:Hid (instR a v=k):=qz1 E (by unfold lS;simp[D,j]) d;clear t;go_wp2_with fail;go_ret;exact⟨by rw[A.out];rfl,b⟩
    have q:Hid (lS v x=false):=by unfold Hid lS;simp[j]
    go_wp2_with fail;go_roundw
    case rel=>exact⟨k+1,ω,by go_num,b,t.out q⟩
    case measure=>simp[intOf];omega
   have q:Hid (lS v x=false):=by unfold Hid lS;simp[D]
   go_wp2_with fail;go_roundw
   case rel=>exact⟨k+1,ω,by go_num,b,t.out q⟩
   case measure=>simp[intOf];omega
  have n:¬(k:Int)<(a.length:Int):=ω;have A:Hid (instR a v=-1):=qz2 λx o=>d.out x (by rw[yX ω];exact o);go_wp2_with fail;go_ret;exact⟨by rw[A.out];rfl,b⟩
def DM{q m:Nat}(X C:Option Addr)(R E:Nat)(a b:List Ev)(w:Δ)(ra:w.ownsRow q 64 6 (.slice X a.length R) a.length (az a))(rb:w.ownsRow m 64 6 (.slice C b.length E) b.length (az b))(Q:a.length<=300000000000)(B:b.length<=300000000000)(a1:∀e∈a,0<=e.a/\e.a<=2147483648)(h:sY a b):ϖ 20 #[.slice X a.length R,.slice C b.length E] w λr f=>ϱ r (.bool true)/\Below w w f:=by
 have p:Hid (∀f,Below w w f->f.ownsRow q 64 6 (.slice X a.length R) a.length (az a)):=λf hb=>aj ra λg hg=>hb.block g (ra.lt g hg).2;have l:Hid (∀f,Below w w f->f.ownsRow m 64 6 (.slice C b.length E) b.length (az b)):=λf hb=>aj rb λg hg=>hb.block g (rb.lt g hg).2;have HH:=ah h;have a0:=ah a1;go_enter func20,ntmps20;go_wp2_with fail;go_loopw [5] (λi wr=>∃k:Nat,k<=a.length/\i=J k/\Below _ w wr) λi _=>a.length-(intOf i).toNat
 case atStart=>exact⟨0,ω,rfl,Below.refl _ _⟩
 case round=>
  obtain⟨k,hk,rfl,O⟩:=hrel;have c:=ah O;by_cases Y:k<a.length
  .obtain⟨x,L⟩:∃x,a[k]?=some x:=⟨_,yh Y⟩;have HX:=ah L;obtain⟨a5,a6⟩:=a0.out x (yy L);obtain⟨g,S,W,-⟩:=jU (p.out wr c) L;obtain rfl:X=some _:=by injection W
   clear W S;have D:Hid (∀f,Below wr wr f->f.cell? ⟨g,k*6,none⟩=some (J x.b)/\f.cell? ⟨g,k*6+1,none⟩=some (J x.a)/\f.cell? ⟨g,k*6+4,none⟩=some (J x.c)):=λf n=>by
    obtain⟨g',S,W,u,v,-,-,t,-⟩:=jU (p.out f (c.out.trans (n.mono c.out.size))) L;have:g=g':=by injection W with h1;injection h1 with h2;injection h2
    subst this;exact⟨u,v,t⟩
   have HI:=ah λf(n:Below wr wr f)=>qz0 C E b x.a f (l.out f (c.out.trans (n.mono c.out.size))) B;have b1:(0:Int)<=(k:Int):=ω;have K:(k:Int)<(a.length:Int):=ω;obtain⟨u,v,t⟩:=D.out wr (Below.refl _ _);clear L;by_cases h3:x.b=3
   .have HK:=ah (HH.out k x HX h3);clear HH;go_wp2_with fail;refine(HI.out wr (Below.refl _ _)).m ?_;rintro F N;have d:=ah N;clear N u v t HI;obtain⟨u,v,t⟩:=D.out F d;rcases HK.out with a2|⟨j,y,hj,hy,z,T,V⟩
    .clear HK D l;rw[a2];go_wp2_with fail;go_roundw
     case rel=>exact⟨k+1,ω,by go_num,c.out.trans (d.out.mono c.out.size)⟩
     case measure=>simp[intOf];omega
    have b0:j<b.length:=(ym.1 hy).1;have HY:=ah hy;have Z:=ah z;have U:=ah λf(n:Below F F f)=>zT (some ⟨g,0,none⟩) C R E a b f (p.out f (c.out.trans ((d.out.trans (n.mono d.out.size)).mono c.out.size))) (l.out f (c.out.trans ((d.out.trans (n.mono d.out.size)).mono c.out.size))) Q B _ T;have M:=ah λf(n:Below F F f)=>zT C (some ⟨g,0,none⟩) E R b a f (l.out f (c.out.trans ((d.out.trans (n.mono d.out.size)).mono c.out.size))) (p.out f (c.out.trans ((d.out.trans (n.mono d.out.size)).mono c.out.size))) B Q _ V;have a8:(0:Int)<=(j:Int):=ω;have a9:(j:Int)<(b.length:Int):=ω;have a7:¬(j:Int)<0:=ω;have a4:IntKind.i64.wrap (x.a-1)=x.a-1:=by rw[IntKind.wrap_i64];omega
    rw[hj];clear hy z T V hj HK;go_wp2_with fail;refine(U.out F (Below.refl _ _)).m ?_;rintro w2 I;have o:=ah I;clear I u v t U;obtain⟨u,v,t⟩:=D.out w2 (d.out.trans (o.out.mono d.out.size));go_wp2_with fail;refine(M.out w2 o).m ?_;rintro w3 H;have P:=ah (o.out.trans (H.mono o.out.size));clear H u v t M;obtain⟨u,v,t⟩:=D.out w3 (d.out.trans (P.out.mono d.out.size));have A:=ah (c.out.trans ((d.out.trans (P.out.mono d.out.size)).mono c.out.size));obtain⟨g2,a3,G,-,-,-,-,d4,-⟩:=jU (l.out w3 A) HY;obtain rfl:C=some ⟨g2,0,none⟩:=by injection G
    rw[Z.out]at d4;clear G D;go_wp2_with fail;go_quiet (fail);go_wp2_with fail;go_roundw
    case rel=>exact⟨k+1,ω,by go_num,below_drewN A _⟩
    case measure=>simp[intOf];omega
   clear HI D HH;go_wp2_with fail;go_roundw
   case rel=>exact⟨k+1,ω,by go_num,c⟩
   case measure=>simp[intOf];omega
  have K:¬(k:Int)<(a.length:Int):=ω;go_wp2_with fail;go_ret;exact⟨rfl,c⟩
open Md (bj nI lT tB Chn)
def DN{base:Nat}(ao:Option Addr)(ac:Nat)(a:List Ev)(q n:Nat)(w:Δ)(ra:w.ownsRow base 64 6 (.slice ao a.length ac) a.length (az a))(hal:a.length<=300000000000)(hn:n<=6)(hq:q<n)(hav:∀e∈a,0<=e.a/\e.a<=2147483648){v' m':Int}{o':Bool}(h:Chn q n 0 (gD n) false a v' m' o'):ϖ 19 #[J q,J n,.slice ao a.length ac] w λr w'=>ϱ r (.bool true)/\Below w.heap.size w w':=by
 have HRA:Hid (∀w',Below w.heap.size w w'->w'.ownsRow base 64 6 (.slice ao a.length ac) a.length (az a)):=λw' hb=>aj ra λg hg=>hb.block g (ra.lt g hg).2;have HH:=ah h;have HAV:=ah hav;clear ra h hav;go_enter func19,ntmps19;go_wp2_with fail;go_loop [7,8] (λx y=>∃k:Nat,k<=n/\x=J (gD k)/\y=J k) λ_ y=>n-(intOf y).toNat
 case atStart=>exact⟨0,by omega,rfl,rfl⟩
 case round=>
  obtain⟨k,hk,rfl,rfl⟩:=hrel;by_cases hlt:k<n
  .have h1:(k:Int)<(n:Int):=by omega
   have h2:=pOz (n:=k) (by omega);have h3:=BX k;have H3:=ah h3;clear h3;go_wp2_with fail;go_round
   case rel=>exact⟨k+1,by omega,by rw[H3.out],by go_num⟩
   case measure=>simp[intOf];omega
  have h1:¬(k:Int)<(n:Int):=by omega
  have e:n=k:=by omega
  subst e;go_wp2_with fail;go_loopw [7,9,10] (λx y z wr=>∃(k:Nat)(v m:Int)(o:Bool),k<=a.length/\x=J m/\y=J v/\z=J k/\Below w.heap.size w wr/\bj m/\0<=v/\v<=2147483648/\Chn q n v m o (a.drop k) v' m' o') λ_ _ z _=>a.length-(intOf z).toNat
  case atStart=>
   have hb:=pOz hn;exact⟨0,0,gD n,false,by omega,rfl,rfl,rfl,Below.refl _ _,⟨by omega,by omega⟩,by omega,by omega,HH.out⟩
  case round=>
   obtain⟨k,v,m,o,hk,rfl,rfl,rfl,hbel,hm,hv0,hv1,hch⟩:=hrel;have HBL:=ah hbel;clear hbel HH;by_cases hlt:k<a.length
   .obtain⟨x,hx⟩:∃x,a[k]?=some x:=⟨_,yh hlt⟩;have hd:a.drop k=x::a.drop (k+1):=by rw[List.drop_eq_getElem_cons hlt,(ym.1 hx).2]
    rw[hd]at hch;obtain⟨-,v1,m1,o1,hst,hch⟩:=hch;have HCH:=ah hch;obtain⟨hx0,hx1⟩:=HAV.out x (yy hx);obtain⟨g,cap,hv,c0,c1,c2,c3,c4,c5⟩:=jU (HRA.out wr HBL.out) hx;obtain rfl:ao=some ⟨g,0,none⟩:=by injection hv
    have hk0:(0:Int)<=(k:Int):=by omega
    have hlt1:(k:Int)<(a.length:Int):=by omega
    obtain⟨xk,xv,xs,xq,xm,xt⟩:=x;simp only at hst hx0 hx1 c0 c1 c2 c3 c4 c5;have XN:=af.d wr wr.heap.size rfl 64 #[J xk,J xv,J xs,J xq,J xm,.string xt];have d0:=XN.a 0 _ rfl;have d1:=XN.a 1 _ rfl;have d2:=XN.a 2 _ rfl;have d4:=XN.a 4 _ rfl;simp only[yf,yd,ye]at d0 d1 d2 d4;have HB0:=ah (HBL.out.alloc HBL.out.size (.cells #[J xk,J xv,J xs,J xq,J xm,.string xt] 64));clear hd hch hv hx XN;rcases hst with ⟨h3,s1,s2,s3,s4,s5,rfl,rfl,rfl⟩|⟨h3,s1,⟨s,s2,s3,s4⟩,rfl,rfl,rfl⟩
    .simp only at h3 s1 s2 s3 s4 s5;subst h3;subst s1;have HQ:Hid (∀w,ϖ 44 #[J m1,J q] w λe w'=>ϱ e (.bool true)/\w'=w):=λw=>by have:=xQ m1 q w s5 (by omega);rw[s2]at this;exact this
     have HA:=ah λw=>Ct m1 w s5;have HB:=ah λw=>Ct m w hm;have h6:Md.ir m1<=6:=xP m1 6;have h7:Md.ir m<=6:=xP m 6;have h8:¬2*(Md.ir m1:Int)<=(Md.ir m:Int):=by unfold nI at s3;omega
     have HI:=ah (λ(w:Δ)(j:Nat)(hj:j<6)=>xQ m1 j w s5 (by omega));have HJ:=ah (λ(w:Δ)(j:Nat)(hj:j<6)=>xQ m j w hm (by omega));have HSU:=ah s4;have HS5:=ah s5;clear s2 s3 s4 s5;generalize Md.ir m1=A at HA h6 h8;generalize Md.ir m=B at HB h7 h8;go_wp2_with fail;refine(HQ.out _).mono ?_;rintro _ w1⟨rfl,rfl⟩;go_wp2_with fail;refine(HA.out _).mono ?_;rintro _ w1⟨rfl,rfl⟩;go_wp2_with fail;refine(HB.out _).mono ?_;rintro _ w1⟨rfl,rfl⟩;clear HQ HA HB;go_wp2_with fail;go_loop [13] (λz=>∃j:Nat,j<=6/\z=J j) λz=>6-(intOf z).toNat
     case atStart=>exact⟨0,by omega,rfl⟩
     case round=>
      obtain⟨j,hj,rfl⟩:=hrel;by_cases hj6:j<6
      .have hj1:(j:Int)<6:=by omega
       have H1:=ah (HI.out (wr.alloc (.cells #[J 3,J (v+1),J xs,J xq,J m1,.string xt] 64)) j hj6);have H2:=ah (HJ.out (wr.alloc (.cells #[J 3,J (v+1),J xs,J xq,J m1,.string xt] 64)) j hj6);have H3:=ah (HSU.out j);clear HI HJ HSU;cases e1:Md.aV m1 j
       .rw[e1]at H1;clear H2 H3;go_wp2_with fail;refine H1.out.mono ?_;rintro _ w1⟨rfl,rfl⟩;clear H1;go_wp2_with fail;go_round
        case rel=>exact⟨j+1,by omega,by go_num⟩
        case measure=>simp[intOf];omega
       rw[e1]at H1;rw[H3.out e1]at H2;clear H3;go_wp2_with fail;refine H1.out.mono ?_;rintro _ w1⟨rfl,rfl⟩;clear H1;go_wp2_with fail;refine H2.out.mono ?_;rintro _ w1⟨rfl,rfl⟩;clear H2;go_wp2_with fail;go_round
       case rel=>exact⟨j+1,by omega,by go_num⟩
       case measure=>simp[intOf];omega
      have hj1:¬(j:Int)<6:=by omega
      clear HI HJ;go_wp2_with fail;go_roundw
      case rel=>exact⟨k+1,v+1,m1,false,by omega,rfl,rfl,by go_num,HB0.out,HS5.out,by omega,by omega,HCH.out⟩
      case measure=>simp[intOf];omega
    simp only at h3 s1 s3 s4;subst s1 s3;have HI:=ah (λ(w:Δ)=>xQ m1 s w hm (by omega));have hs1:(s:Int)<(n:Int):=by omega
    have hs2:¬(s:Int)<0:=by omega
    have hs3:¬(n:Int)<=(s:Int):=by omega
    by_cases h4:xk=4
    .subst h4;have hlast:k+1=a.length:=by
      have:=HCH.out;match e:a.drop (k+1)with
      |[]=>have:=List.drop_eq_nil_iff.1 e;omega
      |y::l=>rw[e]at this;cases this.1
     have hlast1:(a.length:Int)-1=(k:Int):=by omega
     clear hlast;go_wp2_with fail;refine(HI.out _).mono ?_;rintro _ w1⟨rfl,rfl⟩;go_wp2_with fail;go_roundw
     case rel=>exact⟨k+1,_,m1,true,by omega,rfl,rfl,by go_num,HB0.out,hm,hv0,hv1,HCH.out⟩
     case measure=>simp[intOf];omega
    have s5:=s4.resolve_left h4;rw[s5]at HI;go_wp2_with fail;refine(HI.out _).mono ?_;rintro _ w1⟨rfl,rfl⟩;go_wp2_with fail;go_roundw
    case rel=>exact⟨k+1,_,m1,_,by omega,rfl,rfl,by go_num,HB0.out,hm,hv0,hv1,HCH.out⟩
    case measure=>simp[intOf];omega
   have hlt1:¬(k:Int)<(a.length:Int):=by omega
   go_wp2_with fail;go_ret;exact⟨rfl,HBL.out⟩
end
section
open Go.RowKit
open Go.Pm (Perm Fam SupO FixS Loose Shut)
open Md (PS Vote Bal Lft)
variable {v:Θ}{x b:Nat}{R R':ϑ}{o:Pl}
section
variable{ρ:Perm}{F:ϑ}{w w2:Δ}
def Hd.l(ρ:Perm)(h:Hd):Hd:={h with k:=h.k.pm ρ,e:=h.e.pm ρ,j:=h.j.pm ρ}
def PA.a5(al:gS ρ F w w2){h:Hd}{kn:List (Υ)}{l:aL}{evs:List Ev}{snt:List bC}{kb mb:Nat}{rbs:List Nat}{es:Array MapEntry}{clk:Nat}{ev sv:Θ}(p:PA w F b h kn l evs snt kb mb rbs es clk ev sv):PA w2 (tf ρ F) (ρ.f b) (h.l ρ) kn (l.map λx=>(x.1,x.2.pm ρ)) evs snt (ρ.f kb) (ρ.f mb) (rbs.map ρ.f) (es.map (MapEntry.pm ρ)) clk (ev.pm ρ) (sv.pm ρ) where
 a:=by have:=af.j al p.t p.a;simpa[Hd.c,Hd.l,Addr.pm]using this
 e:=p.e.i al p.z p.fr
 map:=al mb _ p.s p.map
 o:=p.o.c
 i:=p.i.a
 d:=λx hx=>by obtain⟨y,hy,rfl⟩:=yW.1 hx;refine⟨(p.d y hy).1.j al (iG _),λg hg=>?_⟩;simp only[qe]at hg;obtain⟨g0,h0,rfl⟩:=yE.1 hg;intro hm;obtain⟨r,hr,e⟩:=yW.1 hm;rw[ρ.Nd e]at hr;exact(p.d y hy).2 g0 h0 hr
 c:=p.c.j al (Ai _)
 f:=p.f.j al (vL _)
 t:=tf.a p.t
 z:=tf.a p.z
 s:=tf.a p.s
 fr:=λr hr=>by obtain⟨r0,h0,rfl⟩:=yW.1 hr;exact tf.a (p.fr r0 h0)
def qf(q:gS ρ F w w2){e:TypeId}{i:Nat}{n:Nat}{h:List Θ}(p:∀g,v.ownBlock=some g->F g)(r:w.ownsRow 0 e i v n h):w2.ownsRow 0 e i (v.pm ρ) n (h.map (Value.pm ρ)):=by refine⟨by rw[yL];exact r.1,?_⟩;rcases r.2 with ⟨a,d⟩|⟨g,c,s,a,-,k,d,m,j,l⟩;exact .inl ⟨by rw[a];simp,d⟩;refine .inr ⟨ρ.f g,c,_,by rw[a];simp[Addr.pm],oI _,q g _ (p g (by rw[a];rfl)) k,d,m,by simpa using j,?_⟩;rw[yV,<-List.map_take,l]
def iY(d:gS ρ F w w2){g j:Nat}(c:F g)(h:w.cell? (aT g j)=some v):w2.cell? ⟨ρ.f g,j,none⟩=some (v.pm ρ):=by
 unfold World.cell? at h⊢;rcases a:w.heap[g]? with _|o;simp only[a]at h;cases h;simp only[a]at h;simp only[d g o c a];cases o<;>simp only[Obj.pm]at h⊢ <;>try cases h
 simp at h⊢;simp[h]
def bI.e(d:gS ρ R w w2)(k:∀x,R (ρ.i x)->R' x){l:List Codec.Msg}(h:bI w R v l):bI w2 R' (v.pm ρ) l:=by
 rcases h with ⟨⟨n,c,rfl⟩,C⟩|⟨g,e,rfl,u,a,t⟩
 .exact .inl ⟨⟨n.map (Addr.pm ρ),c,by cases n<;>simp⟩,C⟩
 refine .inr ⟨ρ.f g,e,by simp[Addr.pm],?_,k _ (by rw[ρ.a];exact a),λj m s=>?_⟩;have:=d g _ a (yl u);exact(yk.1 this).1;obtain⟨B,r,A,z,q,y⟩:=t j m s;refine⟨B.pm ρ,by simpa using iY d a r,by simpa using iY d a A,iY d a z,by simpa using iY d a q,?_⟩;have:=y.j d (iG _);exact⟨this.d,λx p=>k x (this.c x p)⟩
def aE.zA(d:gS ρ R w w2)(c:∀x,R (ρ.i x)->R' x){l:Υ}(h:aE w R v l):aE w2 R' (v.pm ρ) l:=by have:=eB.j d (iG _) h;exact⟨this.d,λx a=>c x (this.c x a)⟩
def Cs(ρ:Perm)(v:Θ×Θ):Θ×Θ:=(v.1.pm ρ,v.2.pm ρ)
def nL:∀(l:List (Υ×Vote))(c:List (Θ×Θ)),(bF l c).map (Value.pm ρ)=bF l (c.map (Cs ρ))
 |a::l,v::c=>by simp only[bF,y8,yN,Cx,nL l c];simp[Cs]
 |[],c=>by cases c<;>rfl
 |_::_,[]=>rfl
def nR:∀(l:List Lft)(c:List (Θ×Θ)),(bV l c).map (Value.pm ρ)=bV l (c.map (Cs ρ))
 |a::l,v::c=>by simp only[bV,y8,yN,Cx,nR l c];simp[Cs]
 |[],c=>by cases c<;>rfl
 |_::_,[]=>rfl
def Pl.p(ρ:Perm)(o:Pl):Pl:=⟨o.l.map λx=>(x.1,x.2.pm ρ),ρ.f o.kb,ρ.f o.m,o.k.map ρ.f,o.n.map (MapEntry.pm ρ),o.j,o.g.pm ρ,o.d.pm ρ,o.h.pm ρ,o.c.map ρ.f,o.e.pm ρ,o.a.map (Cs ρ),o.i.pm ρ,o.f.map (Cs ρ)⟩
def As:(v.pm ρ).ownBlock=some x↔v.ownBlock=some (ρ.i x):=by rw[qe,yE];constructor;rintro⟨g,a,rfl⟩;rw[ρ.a];exact a;intro h;exact⟨_,h,ρ.c x⟩
def KX{a:Nat}:x=ρ.f a↔ρ.i x=a:=⟨λe=>by rw[e,ρ.a],λe=>by rw[<-e,ρ.c]⟩
def Pl.r:(o.p ρ).X x↔o.X (ρ.i x):=by unfold Pl.X Pl.p;simp only[As,Option.isSome_map];constructor;rintro(h|h|h);obtain⟨g,a,rfl⟩:=yE.1 h;rw[ρ.a];exact .inl a;exact .inr (.inl h);exact .inr (.inr h);rintro(h|h|h);exact .inl (yE.2 ⟨_,h,ρ.c x⟩);exact .inr (.inl h);exact .inr (.inr h)
def Pl.s:(o.p ρ).M (ρ.f b) x↔o.M b (ρ.i x):=by unfold Pl.M;rw[Pl.r];refine or_congr ?_ yK;unfold Pl.U Pl.p;simp only[As,KX];refine or_congr yK (or_congr yK (or_congr ?_ yK));rw[yW];constructor;rintro⟨r,a,rfl⟩;rw[ρ.a];exact a;intro h;exact⟨_,h,ρ.c x⟩
end
open Go.Pm (Sup Inside Ran Sim restrict loose_live obj_back frame_calls)
open Go.Cr (fam Tabs leafLaw progOk)
open Md (Wf)
section
structure PQ(w:Δ)(F:ϑ)(b:Nat)(S:PS)(o:Pl):Prop where
 a:PA w F b (o.q S) S.q o.l S.j (S.e.map lF) o.kb o.m o.k o.n o.j o.g o.d
 ms:o.l.map Prod.fst=S.o
 d:∀x,o.X x->F x
 vote:aE w (o.R F b) o.h S.a.a
 lead:iV w (o.R F b) o.c S.d o.e o.a
 left:tg w (o.R F b) S.i o.i o.f
variable {w w' w2:Δ}{F F':ϑ}{b:Nat}{S S':PS}{o:Pl}{ρ:Perm}
def PQ.h(p:PQ w F b S o):PP w (aY F w) b S o:=by have c:jo (o.R F b) (o.R (aY F w) b) w w:=⟨yb _,λg d _=>⟨⟨.inl d.1,d.2⟩,rfl⟩⟩;exact⟨p.a.k aY.c,p.ms,λx a=>.inl (p.d x a),λx a=>.inr a,p.vote.f c,p.lead.a c λ_ _=>rfl,p.left.c c λ_ _=>rfl⟩
def PP.a6(p:PP w F b S o):PQ w (λx=>F x/\x<w) b S o:=by have a:jo (o.R F b) (o.R (λx=>F x/\x<w) b) w w:=⟨yb _,λg d e=>⟨⟨⟨d.1,e⟩,d.2⟩,rfl⟩⟩;exact⟨p.e.a1,p.ms,λx c=>⟨p.fx x c,p.n c⟩,p.vote.f a,p.lead.a a λ_ _=>rfl,p.left.c a λ_ _=>rfl⟩
def PQ.c(p:PQ w F b S o)(h:∀x,F x->F' x):PQ w F' b S o:=by have a:jo (o.R F b) (o.R F' b) w w:=⟨yb _,λg c _=>⟨⟨h g c.1,c.2⟩,rfl⟩⟩;exact⟨p.a.k h,p.ms,λx d=>h x (p.d x d),p.vote.f a,p.lead.a a λ_ _=>rfl,p.left.c a λ_ _=>rfl⟩
def PQ.g(p:PQ w F b S o)(c:∀x,F x->x<w.heap.size->w'.heap[x]?=w.heap[x]?)(a:w.heap.size<=w'):PQ w' F b S o:=by have d:jo _ (o.R F b) w w':=⟨a,λg h e=>⟨h,c g h.1 e⟩⟩;have i:=λx f=>c x (p.d x f) (p.h.n f);exact⟨p.a.u c,p.ms,p.d,p.vote.f d,p.lead.a d i,p.left.c d λg e=>i g (.inr (.inr e))⟩
def GC(a:Option Nat):(eb a).pm ρ=eb (a.map ρ.f):=by cases a<;>simp[eb,Addr.pm]
def iV.d{w:Δ}{R:ϑ}{d:Option Nat}{L:Option Bal}{c:Θ}{a:List (Θ×Θ)}{x:Nat}{B:Bal}(f:d=some x)(e:L=some B)(h:fD w R B x c a):iV w R d L c a:=by rw[f,e];exact h
def PQ.e(p:PQ w F b S o)(k:gS ρ F w w2):PQ w2 (tf ρ F) (ρ.f b) S (o.p ρ):=by
 have j:∀x,o.R F b (ρ.i x)->(o.p ρ).R (tf ρ F) (ρ.f b) x:=λx h=>⟨h.1,λC=>h.2 (Pl.s.1 C)⟩;have c:gS ρ (o.R F b) w w2:=λr I G D=>k r I G.1 D;have H:(o.q S).l ρ=(o.p ρ).q S:=by unfold Pl.q zc Hd.l Pl.p;simp only[GC]
 refine⟨?_,?_,λx E=>p.d _ (Pl.r.1 E),p.vote.zA c j,?_,?_⟩;have:=p.a.a5 k;rw[H]at this;exact this;show (o.l.map λx=>(x.1,x.2.pm ρ)).map Prod.fst=S.o;rw[AD];exact p.ms
 .rcases p.lead.cases with ⟨e,s⟩|⟨x,B,e,s,m⟩
  .have:(o.p ρ).c=none:=by unfold Pl.p;simp[e]
   rw[this,s];trivial
  refine iV.d (x:=ρ.f x) (by unfold Pl.p;simp[e]) s ⟨?_,?_,?_,λi a v q A=>?_⟩;have:=af.j k (p.d x (.inl e)) m.c;simpa[bu,Pl.p]using this;show (o.a.map _).length=_;rw[yL];exact m.f;have:=qf k (λg y=>p.d g (.inr (.inl ⟨by rw[e];rfl,y⟩))) m.d;rw[nL]at this;exact this;have d:(o.a.map _)[i]?=some v:=A;rw[yZ]at d;obtain⟨u,t,rfl⟩:=yE.1 d;obtain⟨z,n⟩:=m.e i a u q t;exact⟨z.zA c j,n.zA c j⟩
 refine⟨?_,?_,λi a v q A=>?_⟩;show (o.f.map _).length=_;rw[yL];exact p.left.f;have:=qf k (λg y=>p.d g (.inr (.inr y))) p.left.d;rw[nR]at this;exact this;have d:(o.f.map _)[i]?=some v:=A;rw[yZ]at d;obtain⟨u,t,rfl⟩:=yE.1 d;obtain⟨z,n⟩:=p.left.e i a u q t;exact⟨z.zA c j,n.e c j⟩
def PZ(w:Δ)(F:ϑ)(b:Nat)(S:PS):Prop:=∃o,PQ w F b S o
def PZ.a(p:PZ w F b S)(c:∀x,F x->x<w.heap.size->w'.heap[x]?=w.heap[x]?)(a:w.heap.size<=w'):PZ w' F b S:=p.imp λ_ p=>p.g c a
def PZ.e(p:PZ w F b S)(h:∀x,F x->F' x):PZ w F' b S:=p.imp λ_ p=>p.c h
def PZ.d(p:PZ w F b S):F b:=p.elim λ_ p=>p.a.t
def PZ.f(p:PZ w F b S):b<w:=p.elim λ_ p=>p.a.a.f
def PZ.c(p:PZ w F b S)(a:gS ρ F w w2):PZ w2 (tf ρ F) (ρ.f b) S:=p.elim λ_ p=>⟨_,p.e a⟩
def PK(w:Δ)(F:ϑ)(b:Nat)(S:PS):Prop:=∃F1:ϑ,(∀x,F1 x->F x)/\PZ w F1 b S/\Cl w F1
def wY(h:Tabs w):CH w:=λi c=>by have a:=h.2 i c;have:∀i,i<64->(Go.Cr.gO.getD i 0:Int)=((Lib.deBruijn64tab.getD i 0:Nat):Int):=θ;rw[this i c]at a;exact a
def K2{f:FuncId}(hf:fam f=true)(Y:fam.leaf f=false)(d:List Θ)(j:∀v∈d,∀X:Perm,v.pm X=v){v:Θ}(u:∀X:Perm,v.pm X=v)(K:∀Q W P L,PP Q W P S L->CH Q->¬W 1->Do f (Value.pointer (some ⟨P,0,none⟩)::d).toArray v Q W P L S')(p:PZ w F b S)(c:Cl w F):ϖ f (Value.pointer (some ⟨b,0,none⟩)::d).toArray w λe H=>ϱ e v/\cW F w H/\PK H (aY F w) b S':=by
 have hb:=p.d;obtain⟨T,q,B,hS,hT,hI,E,l,U,-⟩:=c.e;obtain⟨L,M⟩:=p.c U;have G:=λx h=>by have:F (q.f x):=h;have C:=l _ this;rwa [q.a]at C
 have t:=K T _ (q.i b) L M.h (wY hT) (λe=>by rcases e with e|e;have:=(G 1 e).1;omega;have:=B.c;omega)
 have y:=l b hb;have Z:=frame_calls progOk leafLaw hI hT c.g hf Y (λv u=>by rw[Cy]at u;rcases yF.1 u with rfl|u;intro σ N;have:=N.1 _ y.1 y.2;simp[Addr.pm,this];intro σ _;exact j v u σ) t λe H C=>⟨v,C.1⟩
 have s:((Value.pointer (some ⟨q.i b,0,none⟩)::d).toArray.map (Value.pm q))=(Value.pointer (some ⟨b,0,none⟩)::d).toArray:=by rw[Fj,yN,iL λv u=>j v u q];simp[Addr.pm,q.c]
 rw[s]at Z;refine Z.mono ?_;rintro e H⟨v1,A,m,rfl,⟨R,o',D⟩,a,-⟩;obtain rfl:v1=v:=by injection R
 have V:Loose fam m A H:=⟨a.d.c,a.d.g,a.d.d,a.d.e,a.d.os,λf=>by rw[a.e.1];exact B.g f,a.e.2.2.trans B.b⟩;have O:=λx h=>a.j x (yg h c.f) λr n _ e=>by have:=loose_live B n;have:7<=q.f r:=this;omega
 refine⟨by rw[u],⟨a.d.os.trans (a.os.trans B.os.symm),a.o,a.q,a.l,λk hk hn=>a.j k hk λr n z e=>hn (e▸E r n z)⟩,λx=>∃r,7<=r/\r<A.heap.size/\m.f r=x,λx h=>?_,?_,Cl.a V a.m (bR c.g O)⟩;obtain⟨r,n,z,rfl⟩:=h;by_cases K:r<T;rw[a.c r K];exact .inl (E r n K);exact .inr (a.k r ω z);have hq:=D.c.a6;have I:∀r,(aY (tf q.MS F) T r/\r<A.heap.size)->7<=r:=λr h=>by rcases h.1 with C|C;exact(G r C).1;have:=B.c;omega
 have:=hq.e λr o h ho=>a.d.c r o (I r h) ho;rw[show m.f (q.i b)=b by rw[a.c _ y.2,q.c]]at this;exact⟨_,this.c λx h=>⟨m.i x,I _ h,h.2,m.c x⟩⟩
end
end
section
open Go.RowKit
open Go.Pm (Perm SupO FixS)
open Go.Cr (fam Tabs)
open Md (PS Grp Wf)
variable {i x:Nat}{F:ϑ}{S:PS}{v:Θ}{σ:Perm}
section
structure GQ(w:Δ)(gb pb:Nat)(bl:Nat->Nat)(Fp:Nat->ϑ)(Fn:ϑ)(G:Grp)(nv:Θ):Prop where
 net:cY w Fn gb (sT pb G.n G.n) G.c G.a nv
 d:af w pb 102 ((List.range G.n).map λi=>Value.pointer (some ⟨bl i,0,none⟩)).toArray
 c:∀i,i<G.n->PZ w (Fp i) (bl i) (G.b i)
 dis:∀i j x,i<G.n->j<G.n->Fp i x->Fp j x->i=j
 e:∀i x,i<G.n->Fp i x->¬Fn x
 a:∀i,i<G.n->¬Fp i gb/\¬Fp i pb
 r:¬Fn gb/\¬Fn pb
 t:gb≠pb
 bn:∀x,Fn x->x<w.heap.size
 q:∀i,i<G.n->Cl w (Fp i)
 g:7<=gb/\7<=pb
 u:∀x,Fn x->7<=x
def Wh(gb pb n:Nat)(Fp:Nat->ϑ)(Fn:ϑ):ϑ:=λx=>x=gb\/x=pb\/Fn x\/∃i,i<n/\Fp i x
def GY(w:Δ)(FG:ϑ)(gb:Nat)(G:Grp):Prop:=∃pb bl Fp Fn nv,GQ w gb pb bl Fp Fn G nv/\∀x,Wh gb pb G.n Fp Fn x->FG x
def GT(w w':Δ)(FG:ϑ)(gb:Nat)(G:Grp):Prop:=cW FG w w'/\GY w' (aY FG w) gb G
variable {w w' w1 w2:Δ}{gb pb:Nat}{bl:Nat->Nat}{Fp:Nat->ϑ}{Fn:ϑ}{G G1 G2:Grp}{nv:Θ}{FG:ϑ}
def GQ.s(g:GQ w gb pb bl Fp Fn G nv)(b:i<G.n)(a:Fp i x):x<w:=(g.q i b).j a
def GQ.lp(g:GQ w gb pb bl Fp Fn G nv)(b:i<G.n)(a:Fp i x):7<=x:=((g.q i b).d x a).1
def GQ.lw(g:GQ w gb pb bl Fp Fn G nv):7<=w.heap.size:=yr g.g.1 (Nat.le_of_lt g.net.a.f)
def GQ.b(g:GQ w gb pb bl Fp Fn G nv)(a:i<G.n):ε w pb i (.pointer (some ⟨bl i,0,none⟩)):=g.d.a i _ (by simp[a])
def GQ.c0(g:GQ w gb pb bl Fp Fn G nv):ε w gb 0 (sT pb G.n G.n):=g.net.a.y 0
def GQ.a0(g:GQ w gb pb bl Fp Fn G nv)(b:i<G.n)(a:cW (Fp i) w w'):ε w' gb 0 (sT pb G.n G.n):=(World.cell?_of_block (a.block gb g.net.a.f (g.a i b).1)).trans g.c0
def GQ.y(g:GQ w gb pb bl Fp Fn G nv)(b:i<G.n)(a:cW (Fp i) w w'):ε w' pb i (.pointer (some ⟨bl i,0,none⟩)):=(World.cell?_of_block (a.block pb g.d.f (g.a i b).2)).trans (g.b b)
def GQ.k(g:GQ w gb pb bl Fp Fn G nv)(d:∀x,Wh gb pb G.n Fp Fn x->w'.heap[x]?=w.heap[x]?)(e:∀x,x<7->w'.heap[x]?=w.heap[x]?)(b:w.heap.size<=w'):GQ w' gb pb bl Fp Fn G nv:=
 ⟨⟨(d gb (.inl rfl)).trans g.net.a,g.net.b.i λx a=>d x (.inr (.inr (.inl (g.net.b.c x a))))⟩,(d pb (.inr (.inl rfl))).trans g.d,λi c=>(g.c i c).a (λx a _=>d x (.inr (.inr (.inr ⟨i,c,a⟩)))) b,g.dis,g.e,g.a,g.r,g.t,λx a=>yg (g.bn x a) b,λi c=>(g.q i c).c (λx a=>d x (.inr (.inr (.inr ⟨i,c,a⟩)))) e b,g.g,g.u⟩
def GQ.z(g:GQ w gb pb bl Fp Fn G nv)(b:Wh gb pb G.n Fp Fn x):7<=x/\x<w:=by rcases b with rfl|rfl|h|⟨i,a,h⟩;exact⟨g.g.1,g.net.a.f⟩;exact⟨g.g.2,g.d.f⟩;exact⟨g.u x h,g.bn x h⟩;exact⟨g.lp a h,g.s a h⟩
def GQ.o(g:GQ w gb pb bl Fp Fn G nv)(b:Below w w w'):GQ w' gb pb bl Fp Fn G nv:=g.k (λx a=>b.block x (g.z a).2) (λx a=>b.block x (yg a g.lw)) b.size
def oG{e:TypeId}{k:Nat}{m:Nat}{h:List Θ}(r:w.ownsRow 0 e k v m h)(f:∀g,v.ownBlock=some g->F g)(l:∀x,F x->7<=x)(a:FixS fam F σ):v.pm σ=v:=by
 rcases r.2 with ⟨b,-⟩|⟨g,d,j,b,-⟩
 .simp_all
 have c:=f g (by rw[b];rfl);have:=a.1 g (l g c) c;simp_all
def PQ.f{b:Nat}{o:Pl}(p:PQ w F b S o)(d:∀x,F x->7<=x):SupO fam F (.cells ((o.q S).c (sT o.kb S.n S.n) (.map (some o.m)) o.g o.d) 159 (0,0)):=by
 intro j a;have q:=a.1 o.kb (d _ p.a.z) p.a.z;have l:=a.1 o.m (d _ p.a.s) p.a.s;have f:=oG p.vote.d (λg c=>(p.vote.c g c).1) d a;have k:(eb o.c).pm j=eb o.c:=by rcases r:o.c with _|x;simp[eb];have e:=p.d x (.inl r);have:=a.1 x (d x e) e;simp[eb,Addr.pm,this]
 simp[Obj.pm,Pl.q,zc,Hd.c,f,k,(oG p.left.d (λg c=>p.d g (.inr (.inr c))) d a),(oG p.a.c.d (λg c=>p.a.c.c g c) d a),(oG p.a.f.d (λg c=>p.a.f.c g c) d a),Addr.pm,q,l]
def GQ.put(g:GQ w gb pb bl Fp Fn G nv)(h:i<G.n)(f:cW (Fp i) w w1)(C:PK w1 (aY (Fp i) w) (bl i) S):∃q,GQ w1 gb pb bl q Fn (G.Nk i S) nv/\∀x,Wh gb pb G.n q Fn x->aY (Wh gb pb G.n Fp Fn) w x:=by
 obtain⟨A,l,B,s⟩:=C;have z:=g.net.a.f;have r:=g.d.f;have m:=f.size;have o:∀j x,j<G.n->j≠i->Fp j x->w1.heap[x]?=w.heap[x]?:=λj x c t a=>f.block x (g.s c a) λe=>t (g.dis j i x c h a e);refine⟨λj x=>if j=i then A x else Fp j x,⟨⟨(f.block gb z (g.a i h).1).trans g.net.a,g.net.b.i λx a=>f.block x (g.net.b.k a) λe=>g.e i x h e (g.net.b.c x a)⟩,(f.block pb r (g.a i h).2).trans g.d,λj c=>?_,λj k x c u a b=>?_,λj x c a b=>?_,λj c=>?_,g.r,g.t,λx a=>yg (g.bn x a) m,λj c=>?_,g.g,g.u⟩,λx a=>?_⟩;show PZ w1 (λx=>if j=i then A x else Fp j x) _ (if j=i then S else G.b j);by_cases e:j=i;subst e;simp;exact B;simp only[if_neg e];exact(g.c j c).a (λx a _=>o j x c e a) m
 .by_cases e:j=i<;>by_cases p:k=i<;>simp only[e,p,if_true,if_false]at a b⊢
  .exfalso
   rcases l x a with d|d;exact p (g.dis k i x u h b d);have:=g.s u b;omega
  .exfalso
   rcases l x b with d|d;exact e (g.dis j i x c h a d);have:=g.s c a;omega
  exact g.dis j k x c u a b
 .by_cases e:j=i
  simp only[e,if_true]at a;rcases l x a with d|d;exact g.e i x h d b;have:=g.bn x b;omega;simp only[if_neg e]at a;exact g.e j x c a b
 .by_cases e:j=i
  .simp only[e,if_true];refine⟨λd=>?_,λd=>?_⟩<;>rcases l _ d with y|y;exact(g.a i h).1 y;omega;exact(g.a i h).2 y;omega
  simp only[if_neg e];exact g.a j c
 .by_cases e:j=i
  simp only[e,if_true];exact s;simp only[if_neg e];refine(g.q j c).c (λx a=>o j x c e a) (λx a=>f.block x (yg a g.lw) λe=>?_) m;have:=g.lp h e;omega
 rcases a with e|e|e|⟨j,c,e⟩;exact .inl (.inl e);exact .inl (.inr (.inl e));exact .inl (.inr (.inr (.inl e)));by_cases p:j=i;simp only[p,if_true]at e;rcases l x e with d|d;exact .inl (.inr (.inr (.inr ⟨i,h,d⟩)));exact .inr d;simp only[if_neg p]at e;exact .inl (.inr (.inr (.inr ⟨j,c,e⟩)))
def GQ.p(g:GQ w gb pb bl Fp Fn G nv)(c:i<G.n)(Y:G.a.length+(G.b i).e.length<=1000000):ϖ 62 #[pT gb 0,.pointer (some ⟨bl i,0,none⟩)] w λe m=>ϱ e (.tuple #[])/\cW (Wh gb pb G.n Fp Fn) w m/\∃B E,GQ m gb pb bl Fp B (G.MB i) E/\∀x,B x->aY Fn w x:=by
 obtain⟨o,p⟩:=g.c i c;refine(FY p.a g.net (λx a=>g.e i x c a) (g.a i c).1 ν).m ?_;rintro m⟨u,O,N,l⟩;have q:=u.size;have s:=g.q i c;have k:=p.a.t;have z:∀j x,j<G.n->j≠i->Fp j x->x≠bl i:=λj x b t a e=>t (g.dis j i x b c a (e▸k));have d:∀x,x<w.heap.size->x≠bl i->¬Fn x->x≠gb->m.heap[x]?=w.heap[x]?:=λx a h2 h3 W=>u.block x a λe=>by grind
 have r:=λx a t=>d x (g.s c a) t (g.e i x c a) λe=>(g.a i c).1 (e▸a);have A:=λx a=>d x (yg a g.lw) (λe=>by have:=g.lp c k;omega) (λe=>by have:=g.u x e;omega) (λe=>by have:=g.g.1;omega);have U:∀x,({o with d:=sN}:Pl).M (bl i) x->o.M (bl i) x:=λx a=>by rcases a with (h|h|h|h|h)|h;exact .inl (.inl h);exact .inl (.inr (.inl h));exact .inl (.inr (.inr (.inl h)));exact .inl (.inr (.inr (.inr (.inl h))));cases h;exact .inr h
 have K:jo (o.R (Fp i) (bl i)) (({o with d:=sN}:Pl).R (Fp i) (bl i)) w m:=⟨q,λx C _=>⟨⟨C.1,λh=>C.2 (U x h)⟩,r x C.1 λe=>C.2 (.inl (.inl e))⟩⟩;have P:∀x,o.X x->m.heap[x]?=w.heap[x]?:=λx a=>r x (p.d x a) λe=>p.h.nx a (.inl e);have Q:PQ m (Fp i) (bl i) {G.b i with e:=[]} {o with d:=sN}:=⟨O,p.ms,p.d,p.vote.f K,p.lead.a (o:=o) K P,p.left.c K λx a=>P x (.inr (.inr a))⟩;refine⟨rfl,u.e λx _ h=>?_,λx=>aY Fn w x/\x<m,N,⟨⟨l.a,l.b.d,λx a=>⟨l.b.c x a,l.b.k a⟩⟩,?_,λj b=>?_,g.dis,λj x b a D=>?_,g.a,⟨λh=>?_,λh=>?_⟩,g.t,λx a=>a.2,λj b=>?_,g.g,λx a=>?_⟩,λx a=>a.1⟩;rcases h with h|h|h;exact .inr (.inr (.inr ⟨i,c,h▸k⟩));exact .inr (.inr (.inl h));exact .inl h;exact(d pb g.d.f (λe=>(g.a i c).2 (e▸k)) g.r.2 λe=>g.t e.symm).trans g.d;show PZ m (Fp j) (bl j) (if j=i then {G.b i with e:=[]} else G.b j);by_cases e:j=i;subst e;rw[if_pos rfl];exact⟨_,Q⟩;rw[if_neg e];exact(g.c j b).a (λx a I=>d x I (z j x b e a) (g.e j x b a) λH=>(g.a j b).1 (H▸a)) q;rcases D.1 with f|f;exact g.e j x b a f;have:=g.s b a;omega;rcases h.1 with f|f;exact g.r.1 f;have:=g.net.a.f;omega;rcases h.1 with f|f;exact g.r.2 f;have:=g.d.f;omega
 .by_cases e:j=i
  subst e;refine⟨bR s.g A,yr s.f q,λx a=>?_⟩;obtain⟨L,o',Z,hs⟩:=s.d x a;by_cases T:x=bl j;subst T;exact⟨L,_,O.a,Q.f λy V=>g.lp c V⟩;grind;exact(g.q j b).c (λx a=>d x (g.s b a) (z j x b e a) (g.e j x b a) λH=>(g.a j b).1 (H▸a)) A q
 rcases a.1 with f|f;exact g.u x f;grind
def GQ.l(g:GQ w gb pb bl Fp Fn G nv)(d:cW (λx=>Fn x\/x=gb) w w'){k:List bC}{l:Θ}(m:cY w' (aY Fn w) gb (sT pb G.n G.n) G.c k l):∃j,GQ w' gb pb bl Fp j {G with a:=k} l/\∀x,j x->aY Fn w x:=by
 have q:=d.size;have r:=g.net.a.f;have o:=g.d.f;have f:=λi x c a=>d.block x (g.s c a) λe=>by rcases e with e|e;exact g.e i x c a e;exact(g.a i c).1 (e▸a)
 refine⟨λx=>aY Fn w x/\x<w',⟨⟨m.a,m.b.d,λx a=>⟨m.b.c x a,m.b.k a⟩⟩,(d.block pb o λe=>?_).trans g.d,λi c=>(g.c i c).a (λx a _=>f i x c a) q,g.dis,λi x c a p=>?_,g.a,⟨λh=>?_,λh=>?_⟩,g.t,λx a=>a.2,λi c=>(g.q i c).c (λx a=>f i x c a) (λx a=>d.block x (yg a g.lw) λe=>?_) q,g.g,λx a=>?_⟩,λx a=>a.1⟩;rcases e with e|e;exact g.r.2 e;exact g.t e.symm;rcases p.1 with b|b;exact g.e i x c a b;grind;rcases h.1 with b|b;exact g.r.1 b;omega;rcases h.1 with b|b;exact g.r.2 b;omega;rcases e with e|e;have:=g.u x e;omega;have:=g.g.1;omega;rcases a.1 with b|b;exact g.u x b;have:=g.lw;omega
def Wh.a{n:Nat}{b:ϑ}(h:∀x,b x->aY Fn w x)(x:Nat)(a:Wh gb pb n Fp b x):aY (Wh gb pb n Fp Fn) w x:=by rcases a with a|a|a|a;exact .inl (.inl a);exact .inl (.inr (.inl a));exact(h x a).imp (λh=>.inr (.inr (.inl h))) id;exact .inl (.inr (.inr (.inr a)))
def GY.c(g:GY w FG gb G){F':ϑ}(h:∀x,FG x->F' x):GY w F' gb G:=by obtain⟨d,e,c,j,f,g,b⟩:=g;exact⟨d,e,c,j,f,g,λx a=>h x (b x a)⟩
def GY.a(g:GY w FG gb G)(e:Below w w w'):GY w' FG gb G:=by obtain⟨c,d,b,h,f,g,a⟩:=g;exact⟨c,d,b,h,f,g.o e,a⟩
def GT.a(a:GT w w1 FG gb G1)(b:GT w1 w2 (aY FG w) gb G2):GT w w2 FG gb G2:=by have:=a.1.size;refine⟨a.1.c b.1,b.2.c λx c=>?_⟩;rcases c with h|h;exact h;exact .inr ω
def GT.b(a:GT w w1 FG gb G1)(b:Below w1 w1 w2):GT w w2 FG gb G1:=⟨a.1.c (cW.d b),a.2.a b⟩
def GQ.f(g:GQ w gb pb bl Fp Fn G nv)(p:∀x,Wh gb pb G.n Fp Fn x->FG x)(k:i<G.n)(b:cW (Fp i) w w1)(z:PK w1 (aY (Fp i) w) (bl i) S)(y:G.a.length+S.e.length<=1000000):ϖ 62 #[pT gb 0,.pointer (some ⟨bl i,0,none⟩)] w1 λe r=>ϱ e (.tuple #[])/\GT w r FG gb ((G.Nk i S).MB i):=by
 obtain⟨f,t,c⟩:=g.put k b z;have m:(G.Nk i S).b i=S:=if_pos rfl;refine(t.p k (by rw[m];exact y)).m ?_;rintro r⟨a,j,o,u,l⟩;have q:=b.size;refine⟨rfl,⟨a.os.trans b.os,a.tape.trans b.tape,a.output.trans b.output,yr q a.size,λx d s=>?_⟩,pb,bl,f,j,o,u,λx d=>?_⟩
 .refine(a.block x (yg d q) λe=>?_).trans (b.block x d λe=>s (p x (.inr (.inr (.inr ⟨i,k,e⟩)))));rcases c x e with h|h;grind;omega
 rcases Wh.a l x d with h|h;exact(c x h).imp (p x) id;exact .inr ω
end

def j7(c:Int):Prop:=-9223372036854775808<=c/\c<=9223372036854775807
def jXa{w:Δ}{X:Nat}{T:TypeId}{f g i:Θ}(h:af w X T #[f,g,i])(a c b:Θ):af (((w.setCell ⟨X,0,none⟩ a).setCell ⟨X,1,none⟩ c).setCell ⟨X,2,none⟩ b) X T #[a,c,b]/\ej X w (((w.setCell ⟨X,0,none⟩ a).setCell ⟨X,1,none⟩ c).setCell ⟨X,2,none⟩ b):=by
 have j:=h.e 0 a;have e:=j.e 1 c;have d:=e.e 2 b;exact⟨d,(((ej.d X w).a 0 a).a 1 c).a 2 b⟩
def BP(a b c:Int)(w:Δ)(L:j7 a)(M:j7 b)(I:j7 c):ϖ 14 #[.agg #[J a,J b,J c]] w λe g=>ϱ e (.agg #[J ((1+bw a 6:Nat):Int),J ((1+bw b 8:Nat):Int),J ((1+bw c 4000:Nat):Int)])/\Below w w g:=by
 have H:=ah λg=>fO a 6 g L ω ω;have C:=ah λg=>fO b 8 g M ω ω;have D:=ah λg=>fO c 4000 g I ω ω;have z:=cM a (n:=6) ω;have A:=cM b (n:=8) ω;have y:=cM c (n:=4000) ω;generalize bw a 6=p at H z⊢;generalize bw b 8=q at C A⊢;generalize bw c 4000=r at D y⊢;have P:IntKind.i64.wrap (1+(p:Int))=((1+p:Nat):Int):=by simp[IntKind.wrap,IntKind.bits,IntKind.signed];omega
 have Q:IntKind.i64.wrap (1+(q:Int))=((1+q:Nat):Int):=by simp[IntKind.wrap,IntKind.bits,IntKind.signed];omega
 have T:IntKind.i64.wrap (1+(r:Int))=((1+r:Nat):Int):=by simp[IntKind.wrap,IntKind.bits,IntKind.signed];omega
 have E:=(af.d w _ rfl 23 #[J a,J b,J c]).g (.cells #[J 0,J 0,J 0] 23);have F:=af.d (w.alloc (.cells #[J a,J b,J c] 23)) (w.heap.size+1) ς 23 #[J 0,J 0,J 0];have x:Hid (Below w w ((w.alloc (.cells #[J a,J b,J c] 23)).alloc (.cells #[J 0,J 0,J 0] 23))):=((yi _ _).alloc (yb _) _).alloc ς _;have B:Hid (∀m,(((w.alloc (.cells #[J a,J b,J c] 23)).alloc (.cells #[J 0,J 0,J 0] 23)).drewN m).cell? (aT w 0)=some (J a)/\(((w.alloc (.cells #[J a,J b,J c] 23)).alloc (.cells #[J 0,J 0,J 0] 23)).drewN m).cell? (aT w 1)=some (J b)/\(((w.alloc (.cells #[J a,J b,J c] 23)).alloc (.cells #[J 0,J 0,J 0] 23)).drewN m).cell? (aT w 2)=some (J c)):=λm=>by have h:=E.c (below_drewN (yi (w.heap.size+2) _) m) ω;exact⟨h.a 0 _ rfl,h.a 1 _ rfl,h.a 2 _ rfl⟩
 have G:=ah F;clear E F L M I;go_enter func14,ntmps14;go_upto_region 1 with fail;generalize ((w.alloc _).alloc _)=V at B G x⊢;have j:=ah (B.out 1);refine gl.b (λg=>ε g w 0 (J a)/\ε g w 1 (J b)/\ε g w 2 (J c)) 13 rfl j.out λf=>?_;(iterate 2 refine χ ?_);refine tw 4 ?_;refine tw 5 ?_;refine tw 8 ?_;refine tw 9 ?_;refine te 2 λK i=>?_;go_simp;refine(H.out _).mono ?_;rintro _ N⟨rfl,rfl⟩;go_wp21;refine i.out _ _ (λ_=>j.out) λf=>?_;clear i K;try simp only[pU]
 refine tw 3 ?_;refine te 6 λK i=>?_;go_simp;refine(C.out _).mono ?_;rintro _ N⟨rfl,rfl⟩;go_wp21;refine i.out _ _ (λ_=>j.out) λf=>?_;clear i K;try simp only[pU]
 refine tw 7 ?_;refine te 10 λK i=>?_;go_simp;refine(D.out _).mono ?_;rintro _ N⟨rfl,rfl⟩;go_wp21;refine i.out _ _ (λ_=>j.out) λf=>?_;clear i K;try simp only[pU]
 (iterate 2 refine χ ?_)
 have d:=G.out;have t:=d.a 0 _ rfl;have u:=d.a 1 _ rfl;have v:=d.a 2 _ rfl;have O:=d.b 0;have R:=d.b 1;have S:=d.b 2;simp only[yf,yd,ye]at t u v;refine te 13 λK i=>?_;go_simp;refine i.out _ _ (λh=>absurd rfl h) λ_=>?_;clear i K t u v O R S;try simp only[pU]
 refine gl.done κ ?_ _;go_wp21;obtain⟨n,l⟩:=jXa d (J (1+(p:Int))) (J (1+(q:Int))) (J (1+(r:Int)));have k:=n.i;have s:=(x.out.trans (l.c (Nat.le_succ _))).drew;refine DU (p:=bodyPost _ _ _ _ _) _ λU o=>?_;rw[<-o.out]at k s;clear o n l;have t:=k.a 0 _ rfl;have u:=k.a 1 _ rfl;have v:=k.a 2 _ rfl;simp only[yf,yd,ye]at t u v;exact bodyPost_ret (v:=.agg #[J (1+(p:Int)),J (1+(q:Int)),J (1+(r:Int))]) (by simp[results,results14,go_sem,t,u,v]) rfl ⟨ς,s⟩

