import Derived.Test.YtoklolfaemhfnaaGreatDoorZaf
set_option maxRecDepth 100000
set_option maxHeartbeats 0
set_option linter.defProp false
namespace Go.Proofs.Y.Md
section
open Codec (Msg Frame)
variable {X X':Gh}{cr cr':Book}{n i j:Nat}{S T:PS}{f:Frame}{v b m:Int}{B:Bal}{r cut:Υ}
structure KW(X:Gh)(cr:Book)(n i:Nat)(S:PS)(f:Frame):Prop where
 a:LS X cr n i S
 o:S.out=false
 u:OB X cr n f
 d:FrW n f
 t:f.h=S.b
 mem:aV S.m f.f.toNat=true
 src:f.f≠i
def KW.q(c:KW X cr n i S f):f.f.toNat<n/\f.f.toNat≠i/\f.f=(f.f.toNat:Int):=by let⟨q,e,a⟩:=c.d.src;grind[src]
def KW.x(c:KW X cr n i S f):∀m∈f.d,NC X n S.b m:=λm a=>c.t▸c.u.o m a
def KW.h(c:KW X cr n i S f)(k:f.c=1\/f.c=2\/f.c=4):LS X cr n i (S.My f.f.toNat f.g):=c.a.a3 c.q.1 c.q.2.1 c.d.row (c.t▸c.u.row k)
def KW.w(c:KW X cr n i S f):FrW S.n f:=by rw[c.a.d];exact c.d
def KW.y(c:KW X cr n i S f):S.b<2147483648:=by have:=c.d.view.2;grind[t]
def FrW.PG(h:FrW n f)(d:f.c=3\/f.c=4\/f.c=5):0<f.a:=by have a:=h.c;have c:=h.ballot.1;grind[cH]
def KW.z(c:KW X cr n i S f)(k:f.c=2\/f.c=3\/f.c=5)(p:0<f.a):X.f S.b f.a/\(f.a%8=i->f.a<=S.g):=by have:=c.u.e k p;rw[c.t]at this;exact⟨this,λe=>((c.a.c c.o).bl _ _ this e).2 rfl⟩
def KW.s(c:KW X cr n i S f)(k:f.c=3\/f.c=5)(h:¬f.a<S.g):LS X cr n i (S.Mx f.a):=
 have p:=c.d.PG ω
 let ⟨a,d⟩:=c.z (.inr k) p
 c.a.b5 c.o ω c.d.ballot p a λe=>by omega
def KW.k(c:KW X cr n i S f)(k:f.c=3):Go X cr n i (S.MR f):=by
 unfold PS.MR;split;exact c.a.k;rename_i g
 have h:=(c.s (.inl k) g).w c.d.members (c.u.l k);have l:=h.b3 c.o;have e:(S.c:Int).toNat=i:=by rw[c.a.num];rfl
 refine⟨_,NI ..,l.l ⟨c.d.src,⟨l.a.view.1,(h.c c.o).a⟩,λm a=>(h.c c.o).ms m (lq.1 a),λ_ s a=>?_,ν,ν,λ_=>.inr ⟨rfl,e,rfl,rfl,rfl⟩,ν,ν,ν⟩⟩;show S.Ml.getD s 0<=X.d S.b (S.c:Int).toNat s;rw[e];exact Int.le_of_eq ((c.a.c c.o).row s a).symm
def KW.l(c:KW X cr n i S f)(k:f.c=4):Go X cr n i (S.Mv f):=by
 unfold PS.Mv;split;exact c.a.k;rename_i B D
 split
 .rename_i t
  simp only[Bool.and_eq_true,decide_eq_true_eq]at t;have w:=c.a.a;have e:=(dq S f.f.toNat f.g).b (bf _ f.d);have l:=(c.h ω).e c.d.msgs c.x;have b:=(c.a.c c.o).lead B D;have j:=w.lead B D;have s:=c.w.b k;have E:f.f.toNat<6:=by have:=c.q.1;have:=w.c;have:=c.a.d;omega
  have C:=c.u.u k;rw[c.t,<-t.1.1]at C;have L:=mY j.asked j.answ t.2;have K:aV B.a f.f.toNat=true:=by have:=t.2;rw[lX j.asked j.answ,Bool.and_eq_true]at this;exact this.1
  refine LS.b1 (l.z ?_ λ_=>?_) (e.out.trans c.o) (by rw[e.a];exact c.y) rfl t.1.2;rw[e.c,<-c.a.d];exact j.g E L ⟨s.2.1,c.d.voted,s.2.2,c.d.members⟩;let⟨M,G,H,I⟩:=b.gath t.1.2;have p:=λq=>tj j.answ (.c E) q;rw[e];refine {b with gath:=λ_=>⟨M,λq a=>?_,λa d=>?_,λq a=>?_⟩,vote:=λg=>absurd (t.1.2.symm.trans g) nofun};have a:aV (j9 B.c _) q=true:=a;rw[p,u5,Bool.or_eq_true,decide_eq_true_eq]at a;rcases a with a|a;exact G q a;exact a▸K;rcases List.mem_append.1 d with d|d;let⟨q,F,A⟩:=H a d;exact⟨q,by show aV (j9 _ _) q=true;grind,A⟩;rw[List.mem_singleton.1 d];exact⟨_,by show aV (j9 _ _) _=true;grind[u5],C⟩;have a:aV (j9 B.c _) q=true:=a;rw[p,u5,Bool.or_eq_true,decide_eq_true_eq]at a;rcases a with a|a;let⟨x,F,A⟩:=I q a;exact⟨x,List.mem_append_left _ F,A⟩;subst a;exact⟨_,List.mem_append_right _ (List.mem_singleton.2 rfl),C⟩
 exact c.a.k
def KW.e(c:KW X cr n i S f)(k:f.c=5):Go X cr n i (S.MK f):=by
 unfold PS.MK;split;exact c.a.k;rename_i E
 have h:=c.s (.inr k) E;let⟨z,F⟩:=c.u.p k;rw[c.t]at z;have q:=c.q;have x:=c.a.x;have A:∀C,(S.Mx f.a).d=some C->False:=λC a=>by have d:=(h.c c.o).lead C a;have:=d.h;have e:C.g=f.a:=d.num;omega
 have s:=c.w.a k;obtain⟨e,l⟩:=h.a7 c.o (V:=⟨f.a,f.b,f.i⟩) rfl (.inl z) (λm d=>x.y _ _ _ _ d z) (x.e _ _ _ z) (x.a _ _ _ z) (h.a.e ⟨c.d.ballot.1,λ_=>s.2,c.d.members⟩ λC a=>(A C a).elim) (λe=>by have e:f.a%8=i:=e;omega) λC a=>(A C a).elim;have g:=l.e c.d.msgs λm a=>(c.x m a).c e (c.a.c c.o).a;have D:=bf {S.Mx f.a with a:=⟨f.a,f.b,f.i⟩} f.d;refine⟨_,e,g.l ⟨c.d.src,⟨c.a.a.view.1,(l.c c.o).a⟩,nofun,ν,ν,ν,ν,ν,λ_=>.inr ⟨rfl,?_,rfl⟩,ν⟩⟩;rw[D.i];show (S.c:Int).toNat=i;rw[c.a.num];rfl
def KW.c(c:KW X cr n i S f)(k:f.c=6):Go X cr n i (S.Mk f):=by
 unfold PS.Mk;split;exact c.a.k;rename_i B e
 split
 .rename_i t
  simp only[Bool.and_eq_true,decide_eq_true_eq,Bool.not_eq_true']at t;have b:=(c.a.c c.o).lead B e;have j:=c.a.a.lead B e;have l:f.f.toNat<6:=by have:=c.q.1;have:=c.a.a.c;have:=c.a.d;omega
  have h:=c.u.r k;rw[c.t,<-t.1.1]at h;let⟨s,w,p⟩:=b.vote t.1.2;refine LS.installIf (c.a.z ?_ λ_=>?_) c.o c.y rfl t.1.2;rw[<-c.a.d];exact {j with acc:=j.acc.f (.c l)};refine {b with gath:=λg=>(by grind),vote:=λ_=>⟨s,λq a=>?_,λq a=>?_⟩}<;>rw[tj j.acc (.c l),u5,Bool.or_eq_true,decide_eq_true_eq]at a<;>rcases a with a|a;exact w q a;grind[mem];exact p q a;grind
 exact c.a.k
def KW.p(c:KW X cr n i S f)(k:f.c=1):Go X cr n i (S.MQ f):=by obtain⟨-,m,e,-⟩:=c.w.data k;have l:LS X cr n i ((S.My _ f.g).MX m):=(c.h (.inl k)).e (l:=[m]) (by rw[<-e];exact c.d.msgs) (by rw[<-e];exact c.x);unfold PS.MQ;rw[e];show Go X cr n i (if ((S.My _ f.g).MX m).h then _ else _);split;exact l.k;exact l.t (by rw[Ki];exact c.o) _
def KW.g(c:KW X cr n i S f)(k:f.c=2):LS X cr n i (S.ML f):=by
 have l:=c.h (.inr (.inl k));show LS X cr n i (if (S.My _ f.g).g<f.a then (S.My _ f.g).MH f.a else S.My _ f.g);split
 .rename_i a
  have a:S.g<f.a:=a;have:=c.a.a.prom.1;let⟨d,e⟩:=c.z (.inl k) ω;exact l.u c.o (Int.le_of_lt a) c.d.ballot ω d λx=>by omega
 exact l
def LS.b0(h:LS X cr n i S)(o:S.out=false)(u:OB X cr n f)(s:FrW n f)(z:f.f≠i):Go X cr n i (S.MW f):=by
 unfold PS.MW;split;exact h.k;split;unfold PS.MM;split;exact h.k;have:=h.a.left.2 o;have A:=u.k.1;obtain⟨y,e⟩:∃y,S.i[f.h.toNat]?=some y:=⟨_,List.getElem?_eq_getElem ω⟩;have l:=(h.c o).left _ _ e;rw[show S.i.getD _ _=y by simp[e]];refine(h.l (f:=⟨7,0,f.f.toNat,y.m,f.h,0,0,[],y.a,y.b⟩) (.t rfl ⟨_,by grind[FrW.src],rfl⟩ A l.1 λm a=>?_)).k;grind;split
 .rename_i a d e
  have c:KW X cr n i S f:=⟨h,o,u,s,ω,e,z⟩;unfold PS.L9;split;exact c.p ‹_›;split;exact(c.g ‹_›).k;split;exact c.k ‹_›;split;exact c.l ‹_›;split;exact c.e ‹_›;split;exact c.c ‹_›;split
  .rename_i k
   have g:=u.c k;rw[c.t]at g;have l:=h.e (l:=f.d) s.msgs c.x;have e:=bf S f.d;exact l.install (e.out.trans o) (by rwa [e.a]) (by rw[<-h.d];exact c.w.install k) (by rw[e.a];exact c.y)
  grind[k]
 grind[k]
theorem OL(h:LS X cr n i S)(a:S.MC=0):cr i=false:=by rw[<-h.g];grind[Bo]
def LS.p(h:LS X cr n i S)(a:S.MC=0):Go X cr n i S.Me:=by
 have o:=(Bo a).2;unfold PS.Me;split
 .rename_i c
  simp only[Bool.and_eq_true]at c;rw[u2 h.a c.1.1];obtain⟨g,e,l,-⟩:=h.a9 o (OL h a) c.1.1 c.1.2;exact⟨g,e,l.q o rfl⟩
 split
 .rename_i B d
  unfold PS.Mr;split;exact(h.q o d).k;exact(h.o o d ν).k
 grind[k]
def LS.tf(h:LS X cr n i S)(o:S.out=false){q:Nat}(g:q<n):LS X cr n i (tickF S q):=by
 have p:=h.c o;have t:∀s,s<n->S.Ml.getD s 0<=X.d S.b (S.c:Int).toNat s:=λs a=>by rw[h.num];exact Int.le_of_eq (p.row s a).symm
 have c:LS X cr n i (S.gossip q):=h.l (.q (.inr rfl) ⟨q,g,rfl⟩ ⟨h.a.view.1,p.a⟩ nofun t λ_=>p.prom) λ_=>⟨ϭ,λ_=>ϭ⟩;unfold tickF;split;exact c;have e:=ak S ⟨2,0,q,0,S.b,S.g,0,S.Ml,[],[]⟩;have e:Sends S (S.gossip q) 1:=e;have:=fT (P:=λT=>(∃k,Sends S T k)/\LS X cr n i T) (g:=λT m=>if (S.gossip q).Nl q m then T.MN q m else T) (S.gossip q).Mp _ (λT m a⟨⟨k,s⟩,l⟩=>by split;refine⟨⟨_,s.g (ak T _)⟩,l.l (.q (.inl rfl) ⟨q,g,rfl⟩ ?_ (λx d=>?_) (λx a=>?_) nofun)⟩;rw[s.a.a];exact⟨h.a.view.1,p.a⟩;rw[List.mem_singleton.1 d];rw[s.a.a];exact p.ms m (by grind[lq,Sends.i]);rw[s.a.a,s.a.i,show T.Ml=S.Ml by rw[s.e];rfl];grind;omega) ⟨⟨_,e⟩,c⟩
 exact this.2
def O8(S:PS)(q:Nat):(tickF S q).out=S.out:=(vf S q).a.out
def LS.b8(h:LS X cr n i S):Go X cr n i S.tick:=by
 rw[oB];split
 .rename_i a
  refine(h.p a).a λc _ l=>?_;by_cases o:S.Me.out=false;have:=fT (P:=λT=>T.out=false/\LS c cr n i T) S.Me.L8 S.Me (λT q d k=>⟨(O8 T q).trans k.1,k.2.tf k.1 (by rw[<-l.d];exact(eX.1 d).1)⟩) ⟨o,l⟩;exact this.2.k;exact absurd (l.out ν) (by grind[OL])
 grind[k]
def LS.a8(h:LS X cr n i S){s:Ϭ}(k:Codec.bM s=true->OB X cr n (Codec.bO s).1):Go X cr n i (S.Mn s):=by
 unfold PS.Mn;split
 .rename_i e
  simp only[Bool.and_eq_true,decide_eq_true_eq]at e;have a:=LB (by simp_all[Codec.bM]) e.2;rw[h.d]at a;apply h.b0 (Bo e.1.1).2 (k e.1.2) a;have:=e.2;simp only[na,Bool.and_eq_true,bne_iff_ne,ne_eq]at this;grind[num]
 grind[k]
def LS.a1(h:LS X cr n i S){q:Nat}(a:q<6)(c:cr q=true):LS X cr n i (S.Mu q):=by
 unfold PS.Mu;split
 .exact h.w (.c a) λp d=>by simp_all[u5]
 exact h
def OO(l:List Msg)(m:Msg):m∈PS.put l m/\(∀x∈l,∃y∈PS.put l m,y.a=x.a/\y.seq=x.seq)/\∀x∈PS.put l m,x=m\/x∈l:=by grind[PS.put,eA]
def Wf.Qn(h:Wf S)(t:ϝ)(a:S.Ml.getD S.c 0<20):Wf {S.Ms (S.Ma t) 1 with o:=PS.put S.o (S.Ma t)}:={(h.k h.num rfl rfl (by show S.Ml.getD S.c 0+1<=20;omega) 1).1 with ms:=λm d=>((OO _ _).2.2 m d).elim (λe=>e▸h.u t a) (h.ms m)}
def LS.b4(h:LS X cr n i S)(t:ϝ):Go X cr n i (S.cast t):=by
 unfold PS.cast;split
 .rename_i V
  obtain⟨R,c2,Q,-⟩:=tq V;have o:=(Bo R).2;have p:=h.c o;have w:=h.a;have x:=h.x;have C:=h.num;have O:i<n:=by rw[<-C,<-h.d];exact w.num
  have G:=w.g;have r0:=(G.at w.num).1;have P:((S.c:Int)).toNat=i:=by rw[C];rfl
  have ri:=p.row i O
  let d:=λA q s=>if A=S.b/\q=i/\s=i then X.d A q s+1 else X.d A q s
  let F:=λA s k=>if A=S.b/\s=i/\k=S.Ml.getD i 0+1 then (S.Ma t).c else X.t A s k
  let D:=λA s k=>if A=S.b/\s=i/\k=S.Ml.getD i 0+1 then X.N else X.k A s k
  have H:∀v q s,d v q s=if v=S.b/\q=i/\s=i then X.d v q s+1 else X.d v q s:=λ_ _ _=>rfl
  have M:∀v s k,F v s k=if v=S.b/\s=i/\k=S.Ml.getD i 0+1 then (S.Ma t).c else X.t v s k:=λ_ _ _=>rfl
  have e:NB i X {X with d:=d,t:=F,k:=D,N:=X.N+1}:={NB.a i X with d:=λv q s=>by grind,t:=λv s k a=>by grind};have Y:∀q,(S.Ma t).c.getD q 0=if i=q then S.Ml.getD i 0+1 else S.Ml.getD q 0:=λq=>by show (S.Ml.set S.c _).getD q 0=_;rw[u4 (by rw[G.1];exact w.num),C]
  have Z:∀q,n<=q->S.Ml.getD q 0=0:=λq a=>by have:=G.1;grind[d]
  have W:XI {X with d:=d,t:=F,k:=D,N:=X.N+1} cr n:=by
   refine {x with c0:=λv q s=>Int.le_trans (x.c0 v q s) (e.d v q s).1,le:=λv q s=>?_,z:=λv s k=>?_,tm:=λv s k a b=>?_,cl:=λv q s k a b E l=>?_,mb:=λv s a=>((H v s s).trans (if_neg λc=>?_)).trans (x.mb v s a)};have:=x.le v q s;grind;have:=x.z v s k;grind
   .have b:k<=d v s s:=b;show (∀u,1<=u->u<k->D v s u<D v s k)/\∀t,t≠s->∀u,1<=u->u<=(F v s k).getD t 0->D v t u<D v s k;rw[H]at b;simp only[M];by_cases y:k<=X.d v s s
    .let⟨a1,U⟩:=x.tm v s k a y;refine⟨λu l m=>?_,λq l u m g=>?_⟩;grind;rw[if_neg ν]at g;have:=U q l u m g;have:=x.z v s k;have z:u<=X.d v q q:=by have:=x.cl v s s k a y q l;have:=x.le v s q;omega
     grind
    have:v=S.b/\s=i/\k=S.Ml.getD i 0+1:=ν;obtain⟨rfl,rfl,rfl⟩:=this;have:=x.z S.b;grind
   have b:k<=d v q s:=b;refine Int.le_trans ?_ (e.d v q E).1;show (F v s k).getD E 0<=_;rw[H]at b;rw[M];by_cases y:k<=X.d v q s;have:=x.le v q s;rw[if_neg ν];exact x.cl v q s k a y E l;have:v=S.b/\q=i/\s=i/\k=S.Ml.getD i 0+1:=ν;obtain⟨rfl,rfl,rfl,rfl⟩:=this;rw[if_pos ⟨rfl,rfl,rfl⟩,Y,if_neg ω];by_cases z:E<n;rw[p.row E z];omega;rw[Z E ω];exact x.c0 _ _ _;have:=p.c;rw[p.mem]at this;have a:aV (X.a n v) s=false:=a;grind
  have L:NC {X with d:=d,t:=F,k:=D,N:=X.N+1} n S.b (S.Ma t):=by
   unfold NC;rw[show (S.Ma t).a.toNat=i from P,show (S.Ma t).seq=S.Ml.getD i 0+1 by show S.Ml.getD S.c 0+1=_;rw[C]];rw[C]at r0;refine⟨?_,ω,?_,?_,?_,?_⟩;show aV (X.a n S.b) i=true;rw[<-p.mem];exact p.c;grind;grind
   show (List.set _ _ _).length=n;rw[List.length_set,G.1];exact h.d;grind
  have I:=OO S.o (S.Ma t);have l:=h.a2 o e W (m:=S.Ma t) O (by show ((S.c:Nat):Int)=i;rw[C]) (by show S.Ml.getD S.c 0+1=_;rw[C]) (λv q=>by grind) 1 (ms:=PS.put S.o (S.Ma t)) ⟨_,I.1,by show ((S.c:Nat):Int)=i;rw[C],rfl⟩ I.2.1 (λy a=>(I.2.2 y a).elim (λe=>e▸L) λa=>(p.ms y a).c e p.a) (w.Qn t Q);have l:LS _ cr n i (S.MV (S.Ma t)):=l.y;refine⟨_,e,l.s _ λT q g⟨k,s⟩=>⟨.q (.inl rfl) (l.to g rfl) ?_ (λm a=>?_) (λK a=>?_) nofun,by grind[Ob,kb]⟩⟩;show 0<=T.b/\T.b.toNat<=_;rw[s.a.a];exact⟨w.view.1,p.a⟩;rw[List.mem_singleton.1 a];show NC _ n T.b _;rwa [s.a.a];show T.Ml.getD K 0<=d T.b ((S.c:Nat):Int).toNat K;rw[s.a.a,P,show T.Ml=(S.MV (S.Ma t)).Ml by rw[s.e];rfl];exact Int.le_of_eq ((l.c o).row K a).symm
 grind[k]
end
section
open Codec (Msg Frame)
section
def tl(st:Nat->PS)(i:Nat)(T:PS):Nat->PS:=λj=>if j=i then T else st j
structure SI(X:Gh)(cr:Book)(n:Nat)(st:Nat->PS)(N:Frame->Prop):Prop where
 x:XI X cr n
 b:∀i,i<n->LS X cr n i (st i)
 a:∀f,N f->Codec.dg f=true/\OB X cr n f
def SF(cr:Book)(n:Nat)(st:Nat->PS)(N:Frame->Prop):Prop:=∃X,SI X cr n st N
def ga(net:List (Int×ϝ))(f:Frame):Prop:=Codec.dg f=true/\zY f∈net
variable {X X':Gh}{cr cr':Book}{n i win lim:Nat}{S T U:PS}{f:Frame}{st st':Nat->PS}{N N':Frame->Prop}{G:Grp}{net:List (Int×ϝ)}
theorem jg(a:Nat->PS)(i:Nat)(T:PS):tl a i T i=T:=if_pos rfl
theorem NW{j:Nat}(h:j≠i):tl st i T j=st j:=if_neg h
def KH:tl (tl st i T) i U=tl st i U:=by grind[tl]
def qn:tl st i (st i)=st:=by grind[tl]
def SF.go(h:SF cr n st N)(g:∀X,SI X cr n st N->Go X cr n i T):SF cr n (tl st i T) N:=by let⟨X,s⟩:=h;let⟨c,e,l⟩:=g X s;refine⟨c,l.x,λj a=>?_,λf k=>⟨(s.a f k).1,(s.a f k).2.h e⟩⟩;by_cases d:j=i;grind[jg];rw[NW d];exact(s.b j a).le e l.x d
def SF.a(h:SF cr n st N)(a:i<n){s:Ϭ}(l:∃f,N f/\s=Codec.im f):SF cr n (tl st i ((st i).Mn s)) N:=h.go λ_ g=>(g.b i a).a8 λ_=>by obtain⟨f,k,rfl⟩:=l;rw[show (Codec.bO _).1=f by rw[Codec.rB f (g.a f k).1]];exact(g.a f k).2
def SF.u(h:SF cr n st N)(a:i<n):SF cr n (tl st i (st i).tick) N:=h.go λ_ g=>(g.b i a).b8
def SF.a1(h:SF cr n st N)(g:i<n){l:List (Ϭ)}(c:∀s∈l,∃f,N f/\s=Codec.im f):SF cr n (tl st i ((st i).Nc l)) N:=by
 have d:=(fT (P:=λS=>SF cr n (tl st i S) N) l _ (λT s a k=>by have:=k.a g (c s a);rwa [jg,KH]at this) (by rwa [qn])).u g
 rwa [jg,KH]at d
def SF.t(h:SF cr n st N)(a:i<n)(t:ϝ):SF cr n (tl st i ((st i).cast t)) N:=h.go λ_ g=>(g.b i a).b4 t
def pa(a:Book)(i q:Nat)(h:a q=true):a.put i q=true:=by grind[Book.put]
def SF.v(h:SF cr n st N):SF (cr.put i) n (tl st i (st i).crash) N:=by let⟨X,s⟩:=h;refine⟨X,s.x.x (pa cr i),λj a=>?_,λf k=>⟨(s.a f k).1,(s.a f k).2.a (pa cr i)⟩⟩;by_cases d:j=i;subst d;rw[jg];have l:=s.b j a;refine {l with x:=l.x.x (pa cr j),a:=l.a.crash,g:=by simp[PS.crash,Book.put],out:=λk=>pa cr j j (l.out k),c:=λo=>{l.c o with sus:=(l.c o).sus.a (pa cr j),lead:=λB a=>{(l.c o).lead B a with out:=((l.c o).lead B a).out.a (pa cr j)}},snt:=λf k=>⟨(l.snt f k).1,(l.snt f k).2.1.a (pa cr j),(l.snt f k).2.2⟩};rw[NW d];exact(s.b j a).b7 (pa cr i) (by grind[Book.put])
def SF.q(h:SF cr n st N)(a:∀f,N' f->N f):SF cr n st N':=h.imp λ_ s=>{s with a:=λf k=>s.a f (a f k)}
def SF.o(h:SF cr n st N)(e:∀q,q<n->st q=st' q):SF cr n st' N:=h.imp λ_ s=>{s with b:=λi a=>by rw[<-e i a];exact s.b i a}
def N1{f g:Frame}(c:Codec.dg f=true)(d:Codec.dg g=true)(h:zY f=zY g):f=g:=by have b:Codec.im f=Codec.im g:=congrArg (λx=>x.2.data.toList) h;grind[Codec.rB]
def SF.ls(h:SF cr n (tl st i S) N)(a:i<n):∃X,SI X cr n (tl st i S) N/\LS X cr n i S:=h.imp λX s=>⟨s,by have:=s.b i a;grind[jg]⟩
def SN(cr:Book)(n:Nat)(st:Nat->PS)(net:List (Int×ϝ)):Prop:=SF cr n st (ga net)/\∀c∈net,∃f,Codec.dg f=true/\c=zY f
def SN.b(h:SN cr n (tl st i S) net)(a:i<n):SN cr n (tl st i {S with e:=[]}) (tr lim net (S.e.map zY)):=by
 let⟨X,s,l⟩:=h.1.ls a;have g:=gX (lim:=lim) (P:=λc=>c∈net\/c∈S.e.map zY) _ _ (λ_ h=>.inl h) λ_ h=>.inr h;refine⟨⟨X,s.x,λj k=>?_,λf k=>?_⟩,λc k=>?_⟩
 .by_cases d:j=i
  subst d;rw[jg];exact l.a6 (k:=0) ⟨rfl,Nat.zero_le _⟩ nofun
  have:=s.b j k;grind[NW]
 rcases g _ k.2 with d|d;exact s.a f ⟨k.1,d⟩;let⟨g,p,e⟩:=List.mem_map.1 d;have:=N1 (l.snt g p).1 k.1 e;subst this;exact⟨k.1,(l.snt g p).2.1⟩;rcases g c k with d|d;exact h.2 c d;let⟨f,p,e⟩:=List.mem_map.1 d;exact⟨f,(l.snt f p).1,e.symm⟩
structure RI(n lim:Nat)(G:Grp)(cr:Book):Prop where
 g:1<=n/\n<=6
 h:lim<=4000
 snt:∀i,i<n->(G.b i).e=[]
 i:SN cr n G.b G.a
 n:G.n=n
 lim:G.c=lim
 a:G.a.length<=G.c
def RI.k(h:RI n lim G cr){q:Nat}(d:q<n)(b:net.length<=G.c)(s:SN cr n (tl G.b q T) net):RI n lim (({G with a:=net}.Nk q T).MB q) cr:=by
 have c:=s.b (lim:=G.c) d;have b:(({G with a:=net}.Nk q T).MB q).b=tl G.b q {T with e:=[]}:=by funext j;show (if j=q then {(if q=q then T else G.b q)with e:=[]} else if j=q then T else G.b j)=_;unfold tl;grind
 have a:(({G with a:=net}.Nk q T).MB q).a=tr G.c net (T.e.map zY):=by show tr G.c net ((if q=q then T else G.b q).e.map _)=_;rw[if_pos rfl]
 refine {h with snt:=λi k=>?_,i:=by rwa [b,a],a:=by rw[a];exact dQ _ _ ‹_› };rw[b];unfold tl;split;rfl;exact h.snt i k
def SN.c(h:SN cr n st net):∀k,k<=n->SF cr n (λq=>if q<k then (st q).Nc (Grp.MT net q) else st q) (ga net)
 |0,_=>by simpa using h.1
 |k+1,l=>by
   have g:=(SN.c h k ω).a1 l (l:=Grp.MT net k) λs e=>by obtain⟨c,b,rfl⟩:=List.mem_map.1 e;have b:=(List.mem_filter.1 b).1;obtain⟨f,d,rfl⟩:=h.2 c b;exact⟨f,⟨d,b⟩,rfl⟩
   refine g.o λq _=>?_;grind[tl]
def SN.a(h:SN cr n G.b G.a):∀k,k<=n->SN cr n (carried G k).b (carried G k).a
 |0,_=>h
 |k+1,a=>by rw[lU];have:=SN.a h k ω;rw[<-qn (st:=(carried G k).b)]at this;exact this.b a
def RI.m(h:RI n lim G cr):SF cr n G.MU.b (ga []):=
 ((h.i.c n Ϫ).o λ_ b=>by rw[if_pos b];rfl).q λf a=>by cases a.2
def P5(g:1<=n/\n<=6)(l:lim<=4000):RI n lim (Grp.Nm n win lim) λ_=>false:=by
 have z:∀(q s:Nat),((List.replicate n (List.replicate n (0:Int))).getD q []).getD s 0=0:=λq s=>by grind
 have x:XI ⟨λ_ _ _=>0,λ_ _ _=>[],λ_ _ _=>0,1,[],λ_ _=>False,λ_ _ _=>False,λ_ _ _ _ _=>False,λ_ _ _=>False⟩ (λ_=>false) n:=⟨λ_ _ _=>ϭ,λ_ _ _=>ϭ,λ_ _ _=>Nat.zero_lt_one,λv s k a(b:k<=0)=>ω,λv q s k a(b:k<=0)=>ω,λ_ _ _=>rfl,nofun,nofun,nofun,nofun,nofun,nofun,nofun⟩;refine⟨g,l,λ_ _=>rfl,⟨⟨_,x,λi h=>⟨x,DK g.2 h,rfl,rfl,rfl,nofun,λ_=>⟨Nat.zero_le _,rfl,?_,nofun,nofun,nofun,nofun,⟨ϭ,λk=>absurd rfl k⟩,λc=>absurd c (Int.lt_irrefl 0),nofun,λc=>absurd c (Int.lt_irrefl 0),λq a=>?_,nofun,nofun,λs _=>(z i s).symm,λ_ _ _=>rfl,λq _ s _=>Int.le_of_eq (z q s),λs _ k a b=>by have:=(z i s)▸b;omega⟩,nofun⟩,λf d=>by cases d.2⟩,nofun⟩,rfl,rfl,Nat.zero_le _⟩;have:∀n,n<7->∀i,i<n->aV (2^n-1) i=true:=θ;exact this n ω i h;have a:aV 0 q=true:=a;simp[aV]at a
def dY.a(h:dY n win lim G cr):RI n lim G cr:=by
 induction h with
 |start g l=>
  have r:=P5 (win:=win) g l;exact r.k g.1 r.a ⟨r.i.1.t g.1 _,nofun⟩
 |@deliver G cr k _ r=>
  unfold Grp.deliver;split;exact r;rename_i c l
  have o:=List.mem_of_getElem? l;obtain⟨f,d,rfl⟩:=r.i.2 c o;obtain⟨X,s⟩:=r.i.1;obtain⟨q,b,w⟩:=(s.a f ⟨d,o⟩).2.g;have p:=ω;have:=r.k (net:=G.a.eraseIdx k) b (Nat.le_trans ((by grind)) r.a) ⟨(r.i.1.a b ⟨f,⟨d,o⟩,rfl⟩).q λf d=>⟨d.1,List.mem_of_mem_eraseIdx d.2⟩,λc a=>r.i.2 c (List.mem_of_mem_eraseIdx a)⟩;show RI n lim ((({G with a:=G.a.eraseIdx k}).Nk f.j.toNat ((G.b f.j.toNat).Mn (Codec.im f))).MB f.j.toNat) cr;rwa [p]
 |drop k _ r=>exact {r with a:=Nat.le_trans (List.length_eraseIdx_le _ _) r.a,i:=⟨r.i.1.q λf d=>⟨d.1,List.mem_of_mem_eraseIdx d.2⟩,λc a=>r.i.2 c (List.mem_of_mem_eraseIdx a)⟩}
 |@copy G cr k _ r=>
  unfold Grp.copy;split;exact r;rename_i c l
  have j:=gX (lim:=G.c) [c] G.a (λ_ h=>h) λy u=>ν;exact {r with a:=dQ [c] _ r.a,i:=⟨r.i.1.q λf d=>⟨d.1,j _ d.2⟩,λc a=>r.i.2 c (j _ a)⟩}
 |@cast G cr q t b _ _ r=>exact r.k b r.a ⟨r.i.1.t b t,r.i.2⟩
 |@tick G cr q b _ r=>exact r.k b r.a ⟨r.i.1.u b,r.i.2⟩
 |@crash G cr q _ _ r=>exact {r with snt:=λi a=>(by have:=r.snt i a;show (if i=q then _ else _:PS).e=_;grind [PS.crash]),i:=⟨r.i.1.v,r.i.2⟩}
 |@suspect G cr q p b v l _ r=>exact {r with snt:=λi a=>(by have:=r.snt i a;show (if i=q then _ else _:PS).e=_;grind [PS.Mu,PS.suspect]),i:=⟨r.i.1.go λ_ s=>((s.b q b).a1 (by have:=r.g;omega) l).k,r.i.2⟩}
 |@round G cr _ r=>
  have c:=SN.a (G:=G.MU) ⟨r.m,nofun⟩ n Ϫ;obtain⟨A,x,-,z⟩:=ti G.MU (Nat.zero_le _) n;rw[(by rw[<-r.n];rfl:G.round=carried G.MU n)];exact {r with n:=x.trans r.n,lim:=z.trans r.lim,a:=by omega,snt:=λi a=>by simp_all[lj],i:=c}
def RI.e(h:RI n lim G cr)(a:i<n):(G.b i).f=cr i:=h.i.1.elim λ_ s=>(s.b i a).g
def RI.o(h:RI n lim G cr)(a:i<n)(o:(G.b i).out=true):(G.b i).f=true:=(h.e a).trans (h.i.1.elim λ_ s=>(s.b i a).out o)
def RI.b(h:RI n lim G cr):GW G:=
 let ⟨X,s⟩:=h.i.1
 have e:=h.n
 ⟨by rw[e];exact h.g.2,λi a=>(s.b i ω).a,λi a=>(s.b i ω).num,λi a=>(s.b i ω).d.trans e.symm,λi a=>h.snt i ω,by rw[h.lim];exact h.h,h.a⟩
def RI.d(h:RI n lim G cr){x:Int×ϝ}(k:x∈G.a):∃f,Codec.dg f=true/\x=zY f/\∃j:Nat,j<n/\x.1=(j:Int):=by obtain⟨f,a,rfl⟩:=h.i.2 x k;let⟨X,s⟩:=h.i.1;exact⟨f,a,rfl,(s.a f ⟨a,k⟩).2.g⟩
def RI.c(h:RI n lim G cr)(a:i<n){t:ϝ}(c:(G.b i).Mf t=0):∀x∈(G.b i).o,eA ((G.b i).Ma t).a ((G.b i).Ma t).seq x=false:=λx k=>by let⟨X,s⟩:=h.i.1;have l:=s.b i a;have p:=l.c (Bo (tq c).1).2;have e:=(p.ms x k).2.2.1;have r:=p.row i a;refine Bool.eq_false_iff.2 λd=>?_;unfold eA at d;rw[Bool.and_eq_true,beq_iff_eq,beq_iff_eq]at d;have d:x.a=(G.b i).c/\x.seq=(G.b i).Ml.getD _ 0+1:=d;grind[LS.num]
def dY.sf(h:dY n win lim G cr):SF cr n G.b (ga G.a):=h.a.i.1
end
section
structure wy(S T:PS):Prop where
 snt:∀f∈S.e,f∈T.e
 g:S.b<=T.b
 k:∀(u:Nat)e,S.i[u]?=some e->T.i[u]?=some e
 j:T.b=S.b->S.g<=T.g
 mem:T.b=S.b->T.m=S.m
 sus:T.b=S.b->N6 S.k T.k
 i:T.b=S.b->S.h=true->T.h=true
 kn:T.b=S.b->∀q s,(S.q.getD q []).getD s 0<=(T.q.getD q []).getD s 0
variable {S T U:PS}{f:Frame}{B:Bal}{m b:Int}{cut:Υ}
theorem wy.c(S:PS):wy S S:=⟨λ_ h=>h,ϭ,λ_ _ h=>h,λ_=>ϭ,λ_=>rfl,λ_ _ h=>h,λ_ h=>h,λ_ _ _=>ϭ⟩
def wy.a(h:wy S T)(g:wy T U):wy S U:=
 have a:=h.g;have c:=g.g
 ⟨λe d=>g.snt e (h.snt e d),ω,λu e d=>g.k u e (h.k u e d),λe=>Int.le_trans (h.j ω) (g.j ω),λe=>(g.mem ω).trans (h.mem ω),λe q i=>g.sus ω q (h.sus ω q i),λe k=>g.i ω (h.i ω k),λe q s=>Int.le_trans (h.kn ω q s) (g.kn ω q s)⟩
def wy.h(k:dh S T)(d:∀f∈S.e,f∈T.e)(a:∀q s,(S.q.getD q []).getD s 0<=(T.q.getD q []).getD s 0):wy S T:=
 ⟨d,by rw[k.a];omega,by rw[k.h];exact λ_ _ h=>h,λ_=>by rw[k.l];omega,λ_=>k.j,λ_=>by rw[k.o];exact λ_ h=>h,λ_=>by grind[dh.g],λ_=>a⟩
def wy.d{P:Prop}[Decidable P](h:wy S T)(g:wy S U):wy S (if P then T else U):=by grind
theorem gp(S:PS)(f:Frame):wy S (S.MZ f):=by unfold PS.MZ;split;exact .h rfl (λ_ h=>ν) λ_ _=>ϭ;exact .c S
theorem wi{d:Type}{g:PS->d->PS}(c:∀T a,wy T (g T a)):∀(l:List d)(S:PS),wy S (l.foldl g S)
 |[],S=>.c S
 |a::l,S=>(c S a).a (wi c l _)
def tE{c:Type}{fr:PS->c->Frame}(l:List c)(S:PS):wy S (l.foldl (λT a=>T.MZ (fr T a)) S):=(by grind[wi,gp])
def Pv{l:List (Υ)}{i:Nat}{r:Υ}(h:∀s,(l.getD i []).getD s 0<=r.getD s 0)(q s:Nat):(l.getD q []).getD s 0<=((l.set i r).getD q []).getD s 0:=by grind
def O0(a r:Υ)(s:Nat):a.getD s 0<=(dB a r).getD s 0:=by grind[dB]
theorem BN(S:PS)(q:Nat)(r:Υ):wy S (S.My q r):=.h (dq S q r) (λ_ h=>h) (Pv (O0 _ r))
def Pk(S:PS)(m:Msg):wy S (S.MX m):=.h (nc S m) (by grind[u6]) (by grind[Ki])
def Iu(S:PS)(l:List Msg):wy S (S.Mc l):=.h (bf S l) (by grind[jL]) (by grind[F4])
def Lo:∀(k:Nat)(S:PS)(cut:Υ),wy S (PS.Mt k S cut)
 |0,S,_=>.c S
 |k+1,S,cut=>by
   rw[PS.Mt];split;exact .c S;rename_i m a
   obtain⟨-,q,-,d,c,-⟩:=dy a;refine wy.a ?_ (Lo k _ cut);refine .h rfl (λ_ h=>h) (Pv λs=>?_);show S.Ml.getD s 0<=(S.Ml.set _ _).getD s 0;grind
def Nt(S:PS)(cut:Υ):wy S (S.Mb cut):=Lo 121 S cut
def Oj(h:S.g<=b):wy S (S.MH b):=⟨λ_ h=>h,ϭ,λ_ _ h=>h,λ_=>h,λ_=>rfl,λ_ _ h=>h,λ_ h=>h,λ_ _ _=>ϭ⟩
def NO(h:S.g<=b):wy S (S.Mx b):=⟨λ_ h=>h,ϭ,λ_ _ h=>h,λ_=>h,λ_=>rfl,λ_ _ h=>h,λ_ _=>rfl,λ_ _ _=>ϭ⟩
def wx(S:PS)(v:Vote)(L:Option Bal):wy S {S with a:=v,d:=L}:=⟨λ_ h=>h,ϭ,λ_ _ h=>h,λ_=>ϭ,λ_=>rfl,λ_ _ h=>h,λ_ h=>h,λ_ _ _=>ϭ⟩
def Nv(d:Wf S){x:Int}(a:bj x):wy S (S.suspect x):=⟨λ_ h=>h,ϭ,λ_ _ h=>h,λ_=>ϭ,λ_=>rfl,λ_ q c=>by show aV (j9 _ _) q=true;rw[tj d.sus a.d.g,c];rfl,λ_ h=>h,λ_ _ _=>ϭ⟩
def Nu(S:PS)(m:Int)(cut:Υ):wy S (S.install m cut):=by
 have g:=Nt S cut;unfold PS.install;split
 .have e:(((S.Mb cut).M6 m cut).enter m).b=(S.Mb cut).b+1:=rfl;have:=g.g;refine⟨g.snt,ω,λu x a=>?_,?_,?_,?_,?_,?_⟩;have:=g.k u x a;show (_++_)[u]?=_;grind;all_goals intro c;omega
 exact g.a ⟨λ_ h=>h,ϭ,λu x a=>by show (_++_)[u]?=_;grind,λ_=>ϭ,λ_=>rfl,λ_ _ h=>h,λ_ h=>h,λ_ _ _=>ϭ⟩
def xI(S:PS)(B:Bal):wy S (S.installIf B):=.d ((tE _ S).a (Nu _ _ _)) (.c S)
def OE(S:PS)(B:Bal):wy S (S.MA B):=by refine .d ?_ (.c S);exact(wx S _ _).a ((tE _ _).a (xI _ _))
def vb(a:Wf S):wy S S.Me:=by
 unfold PS.Me;split
 .rename_i c
  simp only[Bool.and_eq_true]at c;rw[u2 a c.1.1];have:=a.prom.1;exact((NO ω).a (wx _ _ _)).a (tE _ _)
 split;exact .d (tE _ S) (tE _ S);exact .c S
theorem NN(c:Wf S)(a:FrW S.n f):wy S (S.MW f):=by refine .d (.c S) (.d ?_ (.d ?_ (.c S)));exact .d (.c S) (gp S _);refine .d ?_ (.d ?_ (.d ?_ (.d ?_ (.d ?_ (.d ?_ (.d ?_ (.c S)))))));have h:wy S ((S.My f.f.toNat f.g).MX (f.d.headD ⟨0,0,[],⟨#[]⟩⟩)):=(BN S _ _).a (Pk _ _);exact .d h (h.a (Nt _ _));show wy S (if (S.My _ _).g<f.a then (S.My _ _).MH _ else S.My _ _);split;exact(BN S _ _).a (Oj ω);grind[BN];unfold PS.MR;split;exact .c S;exact(NO ω).a ((Nv (c.s a.ballot) a.members).a (gp _ _));unfold PS.Mv;split;exact .c S;refine .d ?_ (.c S);exact((BN S _ _).a (Iu _ _)).a ((wx _ _ _).a (OE _ _));unfold PS.MK;split;exact .c S;exact(NO ω).a ((wx _ _ _).a ((Iu _ f.d).a (gp _ _)));unfold PS.Mk;split;exact .c S;exact .d ((wx S _ _).a (xI _ _)) (.c S);exact(Iu S _).a (Nu _ _ _)
def Kh(T:PS)(q:Nat):wy T (tickF T q):=by refine .d (gp T _) ((gp T _).a (wi (λU m=>?_) _ _));exact .d (gp U _) (.c U)
def iE(a:Wf S):wy S S.tick:=by rw[oB];exact .d ((vb a).a (wi Kh _ _)) (.c S)
def N8(c:Wf S){q:Nat}(a:q<6):wy S (S.Mu q):=by unfold PS.Mu;exact .d (Nv c (.c a)) (.c S)
end
open Codec (aA aK cd)
variable {n win lim:Nat}{G:Grp}{cr:Book}
section
def dY.PT{P:PS->Prop}(h:dY n win lim G cr)(p:∀i,P (PS.Ni i n win))(s:∀S,P S->P {S with e:=[]})(c:∀S,Wf S->∀t,(S.Mf t=0->∀x∈S.o,eA (S.Ma t).a (S.Ma t).seq x=false)->P S->P (S.cast t))(a:∀S l,Wf S->P S->P (S.Mn l))(t:∀S,Wf S->P S->P S.tick)(k:∀S,P S->P S.crash)(u:∀S q,P S->P (S.Mu q)):∀i,i<n->P (G.b i):=by
 have w:=λ{G cr}(h:dY n win lim G cr){i}d=>h.a.b.a i (by rwa [h.a.n]);have o:∀{G:Grp}{q:Nat}{T:PS},(∀i,i<n->P (G.b i))->P T->∀i,i<n->P ((G.Nk q T).b i):=λh k i d=>by show P (if i=_ then _ else _);grind
 have y:∀{G:Grp}{i j:Nat},P (G.b j)->P ((G.MB i).b j):=λ{G i j}h=>by show P (if j=i then {G.b i with e:=[]} else G.b j);grind
 induction h with
 |start g=>exact λi d=>y (o (λi _=>p i) (c _ (DK g.2 ω) _ (λ_=>nofun) (p 0)) i d)
 |@deliver G cr k h b=>
  unfold Grp.deliver;split;exact b;rename_i c A
  obtain⟨f,-,rfl,q,u,D⟩:=h.a.d (List.mem_of_getElem? A);refine λi d=>y (o b ?_ i d);rw[show (zY f).1.toNat=q by omega];exact a _ _ (w h u) (b q u)
 |drop k _ b=>exact b
 |@copy G cr k _ b=>unfold Grp.copy;split<;>exact b
 |@cast G cr q t d _ h b=>exact λi e=>y (o b (c _ (w h d) t (λa=>h.a.c d a) (b q d)) i e)
 |@tick G cr q d h b=>exact λi e=>y (o b (t _ (w h d) (b q d)) i e)
 |@crash G cr q d _ b=>exact o b (k _ (b q d))
 |@suspect G cr q r d _ _ _ b=>exact o b (u _ _ (b q d))
 |@round G cr h b=>
  intro i d;have x:∀(l:Ϙ)(G:Grp),P (G.b i)->P ((l.foldl Grp.MB G).b i):=by
   intro l;induction l with
   |nil=>exact λ_ h=>h
   |cons a l b=>exact λG h=>b _ (y h)
  have:=fT (P:=λT=>P T/\Wf T) (Grp.MT G.a i) (G.b i) (λT s _ k=>⟨a T s k.2 k.1,k.2.o s⟩) ⟨b i d,w h d⟩;exact x _ _ (t _ this.2 this.1)
structure FT(S:PS):Prop where
 ms:∀m∈S.o,aK m=true
 h:Mo.gv S.o
 vote:aA S.a.a=true
 as:∀B,S.d=some B->∀a∈B.i,aA a.1=true/\aA a.2.a=true
 left:∀e∈S.i,aA e.a=true/\cd e.b=true
 k:∀B,S.d=some B->0<B.g
 y:S.a.b=0->S.a.m=0/\S.a.a=[]
variable {S T:PS}{f:Frame}{B:Bal}{m:Int}{cut r:Υ}{l:List Msg}
def Ph(h:∀m∈l,aK m=true)(g:Mo.gv l):l.length<=120:=by
 have j:=λm b=>by have:=h m b;simp only[aK,Bool.and_eq_true,Codec.de]at this;omega
 have e:(l.map λm=>m.a.toNat*20+(m.seq-1).toNat).Nodup:=by
  induction l with
  |nil=>simp
  |cons x l d=>
   have a:=List.pairwise_cons.1 g;rw[List.map_cons,List.nodup_cons];refine⟨λc=>?_,d (λm b=>ν) a.2 λm b=>ν⟩;grind
 have i:=Mo.mh 120 _ e λx c=>by grind
 grind
def FT.a1(h:FT S):S.o.length<=120:=Ph h.ms h.h
def FT.v(h:FT S){l:List Msg}(b:l.length<=S.o.length)(a:∀m∈l,m∈S.o):cd l=true:=by have:=h.a1;simp only[cd,Bool.and_eq_true,decide_eq_true_eq,List.all_eq_true];exact⟨ω,λm k=>h.ms m (a m k)⟩
def FT.p(h:FT S)(a:Υ):cd (S.Mm a)=true:=h.v (Nat.le_trans (List.length_filter_le _ _) (Nat.le_of_eq ll)) λ_=>jK
theorem mV:aA r=true↔r.length<=6/\∀x∈r,0<=x/\x<=20:=by simp[aA,Codec.de]
def NA(h:aA r=true)(s:Nat):0<=r.getD s 0/\r.getD s 0<=20:=by
 by_cases a:s<r.length
 .simp_all[mV]
 grind
theorem N9{a:Υ}(h:aA a=true)(k:aA r=true):aA (dB a r)=true:=by refine mV.2 ⟨by grind[iW,mV],λx b=>?_⟩;obtain⟨s,-,rfl⟩:=List.mem_map.1 b;have:=NA h s;have:=NA k s;omega
def th.PH(h:th n r)(a:n<=6):aA r=true:=mV.2 ⟨by rwa [h.1],h.2⟩
def Bal.Qb(h:∀a∈B.i,aA a.1=true/\aA a.2.a=true):aA B.b.a=true:=by
 unfold Bal.b;split
 .have d:∀(l:List (Υ×Vote))(c:Υ),aA c=true->(∀a∈l,aA a.1=true)->aA (l.foldl (λc a=>dB c a.1) c)=true:=by
   intro l;induction l with
   |nil=>simp
   |cons a l g=>grind[N9]
  refine d _ _ ?_ λa b=>(h a b).1;cases e:B.i with
  |nil=>rfl
  |cons a l=>grind
 exact xM (λv=>aA v.a=true) rfl λa b=>(h a b).2
def FT.a0(h:FT S)(k:dh S T)(a:∀m∈T.o,aK m=true)(b:Mo.gv T.o):FT T:=⟨a,b,k.c▸h.vote,k.f▸h.as,by grind[dh.h,left],k.f▸h.k,k.c▸h.y⟩
def FT.j(h:FT S):FT S.M1:=h.a0 rfl (λm a=>h.ms m (List.mem_filter.1 a).1) (List.Pairwise.filter _ h.h)
def FT.o(h:FT S)(q:Nat)(r:Υ):FT (S.My q r):=FT.j {h with}
def FT.t(h:FT S){m:Msg}(d:aK m=true):FT (S.MX m):=by
 unfold PS.MX;split;exact h;rename_i c
 refine {h with ms:=λx a=>?_,h:=?_};rcases List.mem_append.1 a with a|a;exact h.ms x a;grind;refine List.pairwise_append.2 ⟨h.h,ς,λx a y b e=>?_⟩;grind[eA]
def FT.g(h:FT S){l:List Msg}(c:∀m∈l,aK m=true):FT (S.Mc l):=fT l S (λ_ m b a=>a.t (c m b)) h
def FT.d:∀(k:Nat){S:PS}(a:Υ),FT S->FT (PS.Mt k S a)
 |0,_,_,h=>h
 |k+1,S,a,h=>by rw[PS.Mt];split;exact h;exact FT.d k a (FT.j {h with})
def Sends.ft{k:Nat}(a:Sends S T k)(h:FT S):FT T:=a.e▸{h with}
def FT.i(h:FT S)(b:Int):FT (S.MH b):=
 have c:∀B,(S.MH b).d=some B->S.d=some B:=λB a=>by have a:(if S.MY b then S.d else none)=some B:=a;grind
 {h with as:=λB a=>h.as B (c B a),k:=λB a=>h.k B (c B a)}
def FT.u(h:FT S)(b:Int):FT (S.Mx b):={h with as:=(h.i b).as,k:=(h.i b).k}
def FT.install(h:FT S)(c:aA cut=true):FT (S.install m cut):=by
 have k:=FT.d 121 cut h;have b:∀e∈(S.Mb cut).i++[⟨m,cut,(S.Mb cut).Mm cut⟩],aA _=true/\cd e.b=true:=λe a=>by rcases List.mem_append.1 a with a|a;exact k.left e a;rw[List.mem_singleton.1 a];exact⟨c,k.p cut⟩
 unfold PS.install;split;exact⟨nofun,List.Pairwise.nil,rfl,nofun,b,nofun,λ_=>⟨rfl,rfl⟩⟩;exact {k with left:=b}
def FT.installIf(h:FT S)(B:Bal):FT (S.installIf B):=by unfold PS.installIf;split;let⟨k,a⟩:=df S;exact(a.ft h).install h.vote;exact h
def FT.s(h:FT S)(g:0<B.g)(c:∀a∈B.i,aA a.1=true/\aA a.2.a=true):FT (S.MA B):=by
 unfold PS.MA;split
 .obtain⟨k,d⟩:=bo {S with d:=some _,a:=B.b} _;exact(d.ft ⟨h.ms,h.h,Bal.Qb c,λC e=>by
   grind,h.left,λC e=>by
   grind,λk=>absurd k (by
   have:B.b.b=B.g:=by unfold Bal.b;split<;>rfl
   grind)⟩).installIf _
 exact h
def FT.q(h:FT S)(g:Codec.dg f=true)(t:f.c=1->f.d≠[])(i:f.c=5->f.a≠0):FT (S.MW f):=by
 simp only[Codec.dg,Bool.and_eq_true,cd,List.all_eq_true]at g;have j:=g.2.2;have n:=g.1.2;unfold PS.MW;split;exact h;split;unfold PS.MM;split;exact h;exact(ak S _).ft h;split
 .unfold PS.L9;split
  .have o:aK (f.d.headD ⟨0,0,[],⟨#[]⟩⟩)=true:=by
    cases e:f.d with
    |nil=>grind
    |cons m l=>grind
   have p:=(h.o f.f.toNat f.g).t o;show FT (if (PS.MX _ _).h then _ else _);split;exact p;exact p.d 121 _
  split;have p:=h.o f.f.toNat f.g;show FT (if (S.My f.f.toNat f.g).g<f.a then (S.My f.f.toNat f.g).MH f.a else S.My f.f.toNat f.g);split;exact p.i _;exact p;split;unfold PS.MR;split;exact h;have p:=h.u f.a;exact(ak _ _).ft (S:=(S.Mx f.a).suspect f.b) {p with};split
  .unfold PS.Mv;split;exact h;rename_i B c
   split
   .have p:=(h.o f.f.toNat f.g).g j;have q:∀a∈(B.f f.f.toNat (f.g,⟨f.e,f.b,f.i⟩)).i,aA a.1=true/\aA a.2.a=true:=λa d=>by rcases List.mem_append.1 d with d|d;exact h.as B c a d;grind
    exact FT.s (S:={(S.My f.f.toNat f.g).Mc f.d with d:=some _}) ⟨p.ms,p.h,p.vote,λC b=>by
     grind,p.left,λC b=>by
     have b:some _=some C:=b;injection b with b;subst b;exact h.k B c,p.y⟩ (h.k B c) q
   exact h
  split
  .rename_i s
   unfold PS.MK;split;exact h;have p:=h.u f.a;exact(ak _ _).ft (FT.g (S:={S.Mx f.a with a:=⟨f.a,f.b,f.i⟩}) {p with vote:=n,y:=λk=>absurd k (i s)} j)
  split
  .unfold PS.Mk;split;exact h;rename_i B c
   split
   .exact FT.installIf (S:={S with d:=some {B with d:=j9 B.d (aO f.f.toNat)}}) ⟨h.ms,h.h,h.vote,λC b=>by
     have b:some {B with d:=j9 B.d (aO f.f.toNat)}=some C:=b;injection b with b;subst b;exact h.as B c,h.left,λC b=>by
     have b:some {B with d:=j9 B.d (aO f.f.toNat)}=some C:=b;injection b with b;subst b;exact h.k B c,h.y⟩ _
   exact h
  split;exact(h.g j).install n;exact h
 exact h
def FT.c(h:FT S)(s:Ϭ):FT (S.Mn s):=by
 unfold PS.Mn;split
 .rename_i e
  simp only[Bool.and_eq_true,decide_eq_true_eq,Codec.bM]at e;refine h.q e.1.2.1 (λk c=>?_) λk=>((LB e.1.2.1 e.2).a k).1;have a:=(LB e.1.2.1 e.2).data k;grind
 exact h
def FT.w(h:FT S)(d:Wf S):FT S.tick:=by
 rw[oB];split
 .apply (gW _ _).ft;unfold PS.Me;split
  .rename_i c
   simp only[Bool.and_eq_true]at c;rw[u2 d c.1.1];obtain⟨k,e⟩:=bA _ _;refine e.ft {h with as:=λC b a g=>?_,k:=λC b=>?_}<;>have b:=b<;>injection b with b<;>subst b;rotate_left;show 0<(S.g/8+1)*8+S.c;have:=d.prom.1;omega;rw[List.mem_singleton.1 (g)];exact⟨d.g.PH d.c,h.vote⟩
  split;unfold PS.Mr;split;exact(bA S _).elim λ_ k=>k.ft h;exact(bo S _).elim λ_ k=>k.ft h;exact h
 exact h
def FT.x(h:FT S)(b:Wf S)(l:List (Ϭ)):FT (S.Nc l):=
 (fT l S (λ_ s _ a=>a.c s) h).w (Wf.q (λ_ s k=>k.o s) l S b)
def FT.z(h:FT S)(b:Wf S)(t:ϝ)(o:S.Mf t=0->∀x∈S.o,eA (S.Ma t).a (S.Ma t).seq x=false):FT (S.cast t):=by
 unfold PS.cast;split
 .rename_i g
  obtain⟨-,-,u,v,-⟩:=tq g;refine(bK _ 1 (λT q=>ak T _) _ _).ft ?_;have e:PS.put S.o (S.Ma t)=S.o++[S.Ma t]:=by unfold PS.put;rw[(List.any_eq_false.2 λx a=>by grind)];rfl
  refine FT.j {h with ms:=?_,h:=?_}
  .show ∀m∈PS.put S.o _,_;rw[e];intro m c;rcases List.mem_append.1 c with c|c;exact h.ms m c;rw[List.mem_singleton.1 c];have n:=b.num;have j:=b.c;have p:=b.g.at n;have s:aA (S.Ml.set S.c (S.Ml.getD S.c 0+1))=true:=mV.2 ⟨by rwa [List.length_set,b.g.1],λx a=>by rcases zX a with a|a;omega;exact b.g.2 x a⟩
   simp only[aK,PS.Ma,Bool.and_eq_true,Codec.de];grind
  show Mo.gv (PS.put S.o (S.Ma t));rw[e];refine List.pairwise_append.2 ⟨h.h,ς,λx a y d k=>?_⟩;grind[eA]
 exact h
def dY.ft(h:dY n win lim G cr):∀i,i<n->FT (G.b i):=
 h.PT (λi=>⟨nofun,List.Pairwise.nil,rfl,nofun,nofun,nofun,λ_=>⟨rfl,rfl⟩⟩) (λ_ h=>{h with}) (λ_ w t o h=>h.z w t o) (λ_ l _ h=>h.c l) (λ_ w h=>h.w w) (λ_ h=>{h with}) λS q h=>by unfold PS.Mu;split;exact {h with};exact h
end
variable {X:Gh}{i:Nat}{S T U:PS}{f:Frame}{B:Bal}{st:Nat->PS}{N:Frame->Prop}{q:Nat}
def Eg(a:1<=f.c/\f.c<=7)(s:0<=f.f/\f.f<=5)(d:0<=f.j/\f.j<=5)(m:bj f.b)(v:0<=f.h/\f.h<=6)(b:nD f.a)(t:nD f.e)(r:aA f.g=true)(c:aA f.i=true)(g:cd f.d=true):Codec.dg f=true:=by unfold bj nD at*;simp only[Codec.dg,Codec.dk,Codec.bS,Bool.and_eq_true,Codec.de];grind
theorem Ea(h:Codec.dg {f with f:=S.c}=true):{f with f:=(S.c:Int)}∈(S.MZ f).e:=by grind[PS.MZ]
theorem It{c:Type}{g:PS->c->PS}(d:∀U a,∃k,Sends U (g U a) k)(m:∀U a,wy U (g U a)){a:c}:∀{l:List c},a∈l->∀{S:PS},(∀U k,Sends S U k->f∈(g U a).e)->f∈(l.foldl g S).e
 |x::l,b,S,h=>by rcases List.mem_cons.1 b with e|b;subst e;exact(wi m l _).snt f (h S 0 (.f S));let⟨k,o⟩:=d S x;exact It d m b λU j p=>h U _ (o.g p)
def MI{b:Type}{fr:PS->b->Frame}{a:b}{l:List b}(g:a∈l)(h:∀U k,Sends S U k->Codec.dg {fr U a with f:=U.c}=true/\{fr U a with f:=(U.c:Int)}=f):f∈(l.foldl (λT a=>T.MZ (fr T a)) S).e:=
 (by grind[It,ak,gp,Ea])
structure Hi(S:PS):Prop where
 a:Wf S
 c:FT S
 d:S.b<=6
def Hi.b(h:Hi S):0<=(S.c:Int)/\(S.c:Int)<=5:=by have:=h.a.num;have:=h.a.c;omega
def nD.z:nD 0:=⟨ω,ω⟩
def K8(S:PS)(q:Nat):Frame:=⟨2,S.c,q,0,S.b,S.g,0,S.Ml,[],[]⟩
theorem Ec(a:S.MC=0):S.tick=S.Me.L8.foldl tickF S.Me:=by simp_all[oB]
def pO(a:S.MC=0):∃k,Sends S.Me S.tick k:=⟨_,by rw[Ec a];exact gW _ _⟩
def LD(T:PS)(q:Nat):∃k,Sends T (tickF T q) k:=⟨_,vf T q⟩
theorem Oy(b:S.MC=0)(h:Hi S.tick)(g:q<S.tick.n)(o:aV S.tick.m q=true)(l:q≠S.tick.c):K8 S.tick q∈S.tick.e:=by
 let⟨k,e⟩:=pO b;have p:q∈S.Me.L8:=eX.2 ⟨by rwa [<-e.a.n],by rw[<-e.a.j,<-e.a.i,lX h.a.mem h.a.b5,o,u5];grind⟩
 have:K8 S.tick q∈(S.Me.L8.foldl tickF S.Me).e:=by
  refine It LD Kh p λU j a=>?_;have:K8 S.tick q∈(U.gossip q).e:=by
   have d:K8 S.tick q={(⟨2,0,q,0,U.b,U.g,0,U.Ml,[],[]⟩:Frame)with f:=U.c}:=by unfold K8;rw[e.a.i,e.a.a,e.a.l,show S.tick.Ml=S.Me.Ml by rw[e.e];rfl,a.a.i,a.a.a,a.a.l,show U.Ml=S.Me.Ml by rw[a.e];rfl]
   rw[d];apply Ea;rw[<-d];have c:=h.a.c;exact Eg ⟨ν,ν⟩ h.b ⟨ν,ν⟩ .b ⟨h.a.view.1,h.d⟩ h.a.prom .z (h.a.g.PH c) rfl rfl
  unfold tickF;split;omega;exact(wi (λV m=>.d (gp V _) (.c V)) _ _).snt _ this
 grind[Ec]
def NF(S:PS)(q:Nat)(m:Msg):Frame:=⟨1,S.c,q,0,S.b,0,0,S.Ml,[],[m]⟩
theorem Pa(l:S.MC=0)(h:Hi S.tick)(w:S.tick.h=false)(s:q<S.tick.n)(y:aV S.tick.m q=true)(t:q≠S.tick.c){m:Msg}(a:m∈S.tick.o)(u:S.tick.Nl q m=true):NF S.tick q m∈S.tick.e:=by
 let⟨k,e⟩:=pO l;have v:q∈S.Me.L8:=eX.2 ⟨by rwa [<-e.a.n],by rw[<-e.a.j,<-e.a.i,lX h.a.mem h.a.b5,y,u5];grind⟩
 have:NF S.tick q m∈(S.Me.L8.foldl tickF S.Me).e:=by
  refine It LD Kh v λU j r=>?_;unfold tickF;rw[if_neg (by rw[r.a.g,<-e.a.g,w];nofun)];have c:=r.g (ak U ⟨2,0,q,0,U.b,U.g,0,U.Ml,[],[]⟩);have c:Sends S.Me (U.gossip q) _:=c;generalize U.gossip q=V at c;have p:V.o=S.tick.o/\V.q=S.tick.q:=by rw[c.e,e.e];exact⟨rfl,rfl⟩
  refine It (λW x=>?_) (λW x=>.d (gp W _) (.c W)) (lq.2 (by rwa [p.1])) λW z b=>?_
  .split;grind[ak];exact⟨0,.f W⟩
  rw[if_pos (show V.Nl q m=true by unfold PS.Nl;rwa [p.2])];have b:=c.g b;have o:NF S.tick q m={(⟨1,0,q,0,W.b,0,0,W.Ml,[],[m]⟩:Frame)with f:=W.c}:=by unfold NF;rw[e.a.i,e.a.a,show S.tick.Ml=S.Me.Ml by rw[e.e];rfl,b.a.i,b.a.a,show W.Ml=S.Me.Ml by rw[b.e];rfl]
  rw[o];apply Ea;rw[<-o];have d:=h.a.c;exact Eg ⟨ν,ν⟩ h.b ⟨ν,ν⟩ .b ⟨h.a.view.1,h.d⟩ .z .z (h.a.g.PH d) rfl (by simp only[NF,cd,List.all_cons,List.all_nil,h.c.ms m a];rfl)
 grind[Ec]
theorem og(a:Codec.dg f=true)(e:S.MC=0)(d:na f S.c S.n=true):S.Mn (Codec.im f)=S.MW f:=by grind[PS.Mn,Codec.rB,Codec.bM]
theorem Ae(a:Codec.dg f=true)(S:PS):S.Mn (Codec.im f)=S\/S.MC=0/\na f S.c S.n=true/\S.Mn (Codec.im f)=S.MW f:=by
 by_cases c:S.MC=0
 .by_cases b:na f S.c S.n=true
  grind[og]
  grind[PS.Mn,Codec.rB]
 grind[PS.Mn]
section
variable {net:List (Int×ϝ)}{R:PS->PS->Prop}
def SF.r(e:i<n)(c:∀S,R S S)(g:∀S T U,R S T->R T U->R S U)(d:∀S f,SF cr n (tl st i S) N->N f->Codec.dg f=true->f.j=i->R S (S.Mn (Codec.im f))):∀(l:List (Ϭ))(S:PS),(∀s∈l,∃f,N f/\Codec.dg f=true/\f.j=i/\s=Codec.im f)->SF cr n (tl st i S) N->SF cr n (tl st i (l.foldl PS.Mn S)) N/\R S (l.foldl PS.Mn S)
 |[],S,_,h=>⟨h,c S⟩
 |s::l,S,m,h=>by obtain⟨f,j,p,o,rfl⟩:=m s ς;have k:=h.a e ⟨f,j,rfl⟩;rw[jg,KH]at k;obtain⟨a,b⟩:=SF.r e c g d l _ (λs d=>ν) k;grind
def Ox(a:∀c∈net,∃f,Codec.dg f=true/\c=zY f):∀s∈Grp.MT net i,∃f,ga net f/\Codec.dg f=true/\f.j=i/\s=Codec.im f:=λs e=>by obtain⟨c,b,rfl⟩:=List.mem_map.1 e;let⟨b,g⟩:=List.mem_filter.1 b;obtain⟨f,d,rfl⟩:=a c b;exact⟨f,⟨d,b⟩,d,by grind[zY],rfl⟩
def SF.e(h:SF cr n st (ga net))(l:i<n)(d:∀c∈net,∃f,Codec.dg f=true/\c=zY f)(g:∀S,R S S)(k:∀S T U,R S T->R T U->R S U)(j:∀S f,SF cr n (tl st i S) (ga net)->ga net f->Codec.dg f=true->f.j=i->R S (S.Mn (Codec.im f))):∃e,SF cr n (tl st i e) (ga net)/\R (st i) e/\(st i).Nc (Grp.MT net i)=e.tick:=
 let ⟨a,b⟩:=SF.r l g k j _ _ (Ox d) (by rwa [qn])
 ⟨_,a,b,rfl⟩
def SF.at(h:SF cr n st (ga net))(d:i<n)(a:∀c∈net,∃f,Codec.dg f=true/\c=zY f)(m:∀S,R S S)(k:∀S T U,R S T->R T U->R S U)(b:∀S f,SF cr n (tl st i S) (ga net)->ga net f->Codec.dg f=true->f.j=i->R S (S.Mn (Codec.im f)))(p:ga net f)(u:f.j=i):∃g j,SF cr n (tl st i g) (ga net)/\R (st i) g/\R (g.Mn (Codec.im f)) j/\SF cr n (tl st i j) (ga net)/\(st i).Nc (Grp.MT net i)=j.tick:=by
 have x:Codec.im f∈Grp.MT net i:=List.mem_map.2 ⟨_,List.mem_filter.2 ⟨p.2,by grind[zY]⟩,rfl⟩;let⟨v,y,e⟩:=List.append_of_mem x;have l:=Ox (i:=i) a;obtain⟨q,r⟩:=SF.r d m k b v _ (λs b=>l s ν) (by rwa [qn]);have o:=q.a d ⟨f,p,rfl⟩;rw[jg,KH]at o;obtain⟨w,t⟩:=SF.r d m k b y _ (λs b=>l s ν) o;grind[PS.Nc]
end
def SF.j(h:SF cr n st N):SF cr n (tl st i (st i)) N:=by rw[qn];exact h
def SF.c(h:SF cr n (tl st i S) N)(a:i<n):Wf S/\S.c=i/\S.n=n:=by obtain⟨X,-,l⟩:=h.ls a;exact⟨l.a,l.num,l.d⟩
def dm(h:SF cr n (tl st i S) N)(b:i<n)(a:Codec.dg f=true):wy S (S.Mn (Codec.im f)):=by obtain⟨c,-⟩:=h.c b;grind[Ae,wy.c,NN,LB]
def SI.d(s:SI X cr n st N)(b:i<n)(c:cr i=false):PJ X cr n i (st i):=(s.b i b).c (by have:=(s.b i b).out;grind)
def SF.l(h:SF cr n (tl st i S) N)(b:i<n)(c:cr i=false):∃X,SI X cr n (tl st i S) N/\LS X cr n i S/\PJ X cr n i S/\S.MC=0/\Up cr n S.m:=by
 let⟨X,s,l⟩:=h.ls b;have o:S.out=false:=by have:=l.out;grind
 have d:=l.g;exact⟨X,s,l,l.c o,by unfold PS.MC;grind,(l.c o).w l.x (by rw[<-l.d];exact l.a.c)⟩
def SF.b(h:SF cr n (tl st i S) N)(b:i<n)(c:cr i=false):S.MC=0:=(h.l b c).elim λ_ k=>k.2.2.2.1
def SF.k(h:SF cr n st N)(b:i<n)(c:cr i=false):∃X,SI X cr n st N/\LS X cr n i (st i)/\PJ X cr n i (st i)/\(st i).MC=0/\Up cr n (st i).m:=by have:=(h.j (i:=i)).l b c;rwa [qn]at this
def dY.pj(h:dY n win lim G cr)(b:i<n)(c:cr i=false):∃X,SI X cr n G.b (ga G.a)/\LS X cr n i (G.b i)/\PJ X cr n i (G.b i)/\(G.b i).MC=0/\Up cr n (G.b i).m:=h.sf.k b c
variable {net:List (Int×ϝ)}{m:Int}
def Ef{p:Nat}(d:f.j=p)(a:f.f≠p)(b:f.f<n)(m:cX f.b (2^n-1)=0)(r:dp f.g n=true)(c:dp f.i n=true)(g:∀m∈f.d,dr n m=true)(k:cH f n=true):na f p n=true:=by grind[na]
def oo(n:Nat):dp [] n=true:=by simp[dp]
def ON(d:n<=6):bj (2^n-1)/\∀q,aV (2^n-1) q=decide (q<n):=by
 have h:∀n,n<7->bj (2^n-1)/\∀q,q<6->aV (2^n-1) q=decide (q<n):=by unfold bj;decide
 grind[zW]
def lv(d:n<=6)(c:bj m)(h:∀q,aV m q=true->q<n):cX m (2^n-1)=0:=by let⟨a,b⟩:=ON d;refine(bj.g c).e .b λq=>?_;rw[lX c a,b];simp_all[aV]
def XI.o(x:XI X cr n)(c:n<=6):∀(k:Nat){v:Int},v.toNat=k->k<=X.D.length->aV (X.a n v) q=true->q<n
 |0,v,e,_,a=>by unfold Gh.a at a;rw[if_pos e,(ON c).2]at a;grind
 |k+1,v,e,l,a=>by obtain⟨m,d⟩:∃m,X.D[k]?=some m:=⟨_,List.getElem?_eq_getElem l⟩;obtain⟨b,Q,g,-⟩:=x.g _ _ d;refine XI.o x c k (v:=k) rfl ω ((x.a _ _ _ g).2.1 q ?_);unfold Gh.a at a;rw[e,if_neg ω,Nat.add_sub_cancel,d]at a;exact a
def NC.a{v:Int}{m:Msg}(a:NC X n v m)(x:XI X cr n)(g:n<=6)(l:v.toNat<=X.D.length)(b:aK m=true):dr n m=true:=by have:=x.o g _ rfl l a.1;have:=a.2.2.2;simp only[aK,Bool.and_eq_true,Codec.de]at b;simp only[dr,Bool.and_eq_true,decide_eq_true_eq,beq_iff_eq];omega
def XI.w(x:XI X cr n){u:Nat}(d:X.D[u]?=some m):N6 m (X.a n u)/\bj m/\Up cr n m/\∃c,aV (X.a n u) c=true/\aV m c=false:=by obtain⟨b,Q,g,-⟩:=x.g u m d;exact(x.a _ _ _ g).2
theorem OD(a:Wf S)(c:q≠S.c):na (K8 S q) q S.n=true:=by have d:=a.num;have b:=a.g.1;refine Ef rfl (by show ((S.c:Int))≠q;omega) (by show (S.c:Int)<S.n;omega) (lv a.c (m:=0) .b (by simp[aV])) ?_ (oo _) nofun ?_;grind[K8,dp];grind[K8,cH]
def SF.z(h:SF cr n st (ga net))(w:∀c∈net,∃f,Codec.dg f=true/\c=zY f)(H:FT (st i))(I:n<=6)(o:i<n)(hu:cr i=false)(v:ga net f)(V:f.j=i)(M:na f i n=true)(hk:f.c≠7)(hv:f.h<(st i).b)(E:f.h<=6):∃g∈((st i).Nc (Grp.MT net i)).e,g.c=7/\g.f=i/\g.j=f.f/\g.h=f.h/\∀q:Nat,f.f=q->q≠i->na g q n=true:=by
 obtain⟨r,S3,L,y,A,W,e⟩:=h.at (R:=λS T=>wy S T/\(FT S->FT T)) o w (λS=>⟨.c S,id⟩) (λ_ _ _ a b=>⟨a.1.a b.1,λk=>b.2 (a.2 k)⟩) (λS f h _ v _=>⟨dm h o v,λk=>k.c _⟩) v V;obtain⟨X,s,P,J,F,-⟩:=L.l o hu;have D:=P.a;have c1:=P.num;have c2:=P.d;have R:=y.2 H;have y:=y.1;have A:=A.1;have a0:=y.g;have K:=LB v.1 M;rw[og v.1 F ν]at A;obtain⟨d,l⟩:∃d,r.i[f.h.toNat]?=some d:=⟨_,List.getElem?_eq_getElem (show f.h.toNat<r.i.length by have:=D.left.2 (Bo F).2;have:=K.view.1;omega)⟩;have Z:=J.left _ _ l;obtain⟨d1,O,-⟩:=s.x.w Z.1;have d3:=Z.2.1;have dl:=(List.getElem?_eq_some_iff.1 Z.1).1;have j:=R.left d (List.mem_of_getElem? l);have t:=K.src;have x:({(⟨7,0,f.f.toNat,d.m,f.h,0,0,[],d.a,d.b⟩:Frame)with f:=r.c})∈(r.MW f).e:=by unfold PS.MW;rw[if_neg ω,if_pos ω];unfold PS.MM;rw[if_neg hk,show r.i.getD _ _=d by grind];apply Ea;let⟨q,Q,eq⟩:=t;have:=D.num;have:=D.c;exact Eg ⟨ς,ς⟩ ⟨ς,ν⟩ ⟨ν,ν⟩ O ⟨K.view.1,E⟩ .z .z rfl j.1 j.2
 refine⟨⟨7,r.c,f.f.toNat,d.m,f.h,0,0,[],d.a,d.b⟩,by rw[e];exact(iE (W.c o).1).snt _ (A.snt _ x),rfl,ν,ν,rfl,λq Q Y=>?_⟩;refine Ef ν ν ν (lv I O λp M=>?_) (oo _) ?_ (λm z=>?_) ?_;exact s.x.o I _ rfl ω (d1 p M);show (d.a.length==n||d.a.length==0)=true;grind;have z:m∈d.b:=z;have u:=j.2;simp only[cd,Bool.and_eq_true,List.all_eq_true]at u;exact(Z.2.2 m z).a s.x I ω (u.2 m z);grind[cH]
def SF.x(h:SF cr n st (ga net))(j:∀c∈net,∃f,Codec.dg f=true/\c=zY f)(b:i<n)(s:cr i=false)(d:ga net f)(C:f.j=i)(I:na f i n=true)(r:f.c=7)(K:f.h=(st i).b)(u:f.f=q)(p:q<n)(l:cr q=false):(st i).b<((st i).Nc (Grp.MT net i)).b:=by
 obtain⟨a,P,o,v,A,E,e⟩:=h.at b j wy.c (λ_ _ _=>wy.a) (λS f h _ d _=>dm h b d) d C;let⟨X,t,L,w,D,up⟩:=o.l b s;have y:=L.a;have z:=L.num;have F:=L.d;have O:=(iE (E.c b).1).g;have x:=v.g;have g:=A.g;rw[e];rw[og d.1 D ν]at g;by_cases c:(st i).b<a.b;have:=(NN y (LB d.1 (by rwa [F]))).g;omega;have m:aV f.b a.c=true:=by rw[z];exact(L.x.w ((t.a f d).2.c r)).2.2.1 i b s
 have M:(a.MW f).b=a.b+1:=by unfold PS.MW;rw[if_neg ω,if_neg ω,if_pos (show aV a.m f.f.toNat=true by rw[u];exact up q p l)];unfold PS.L9;rw[r];show (a.M3 f).b=_;have k:=bf a f.d;have t:=eh (a.Mc f.d) f.i;unfold PS.M3 PS.install;rw[if_pos (by grind[dh.i])];show ((a.Mc _).Mb _).b+1=_;rw[t.a,k.a]
 omega
end
section
open Codec (Msg Frame aA aK cd)
variable {cr:Book}{n i:Nat}{S T U:PS}{f:Frame}{B:Bal}{st:Nat->PS}{N:Frame->Prop}{a b c d a' b' c' d':Nat}
def Nz(f:Frame):Bool:=f.c==1||f.c==2
def KA(f:Frame):Bool:=f.c==3||f.c==5
def NZ(f:Frame):Bool:=f.c==4||f.c==6
def k7(f:Frame):Bool:=f.c==7
def OA(v:Int)(f:Frame):Bool:=f.c !=7&&decide (f.h<v)
def LA(S:PS):Nat:=if S.d.any (·.e) then 6 else 0
def Ee(S T:PS)(a b c d:Nat):Prop:=∃l,T.e=S.e++l/\l.countP Nz<=a/\l.countP KA+LA T<=LA S+b/\l.countP NZ<=c/\(T.b=S.b->l.countP k7<=d)
def Ee.g(h:Ee S T a b c d)(g:Ee T U a' b' c' d')(q:S.b<=T.b)(j:T.b<=U.b):Ee S U (a+a') (b+b') (c+c') (d+d'):=by let⟨l,w,t,m,s,x⟩:=h;let⟨k,v,u,o,p,r⟩:=g;refine⟨l++k,ν,?_,?_,?_,λe=>?_⟩<;>rw[List.countP_append];omega;omega;omega;omega
def Ee.h(h:Ee S T a b c d)(s:a<=a')(o:b<=b')(p:c<=c')(r:d<=d'):Ee S T a' b' c' d':=
 let ⟨l,g,m,k,j,q⟩:=h
 ⟨l,g,ω,ω,ω,λe=>ω⟩
theorem Ee.e(e:T.e=S.e)(g:LA T<=LA S)(a b c d:Nat):Ee S T a b c d:=⟨[],ν,ς,ν,ς,λ_=>ς⟩
def L6{o:Type}{fr:PS->o->Frame}{P:Frame->Prop}(j:∀T a,P {fr T a with f:=T.c}):∀(l:List o)(S:PS),∃k,(l.foldl (λT a=>T.MZ (fr T a)) S).e=S.e++k/\k.length<=l.length/\∀f∈k,P f
 |[],S=>⟨[],ς,ς,nofun⟩
 |x::l,S=>by obtain⟨k,m,p,g⟩:=L6 j l _;by_cases h:Codec.dg {fr S x with f:=S.c}=true;refine⟨{fr S x with f:=S.c}::k,?_,ν,λf h=>?_⟩;rw[List.foldl_cons,m];grind[PS.MZ];grind;grind[PS.MZ]
theorem gh{k:List Frame}{p:Frame->Bool}(h:∀f∈k,p f=false):k.countP p=0:=List.countP_eq_zero.2 λf e=>ν
def NG{j:Type}{fr:PS->j->Frame}{l:List j}(o:∀T a,(fr T a).c=3\/(fr T a).c=5)(r:l.length<=6)(s:∀U k,Sends S U k->LA U=LA S):Ee S (l.foldl (λT a=>T.MZ (fr T a)) S) 0 6 0 0:=by
 let⟨k,m,q,h⟩:=L6 (P:=λf=>f.c=3\/f.c=5) (λT a=>o T a) l S;have p:=bK (λT a=>T.MZ (fr T a)) 1 (λT a=>ak T _) l S;refine⟨k,m,?_,?_,?_,λ_=>?_⟩;grind[gh,Nz];grind
 grind[gh,NZ]
 grind[gh,k7]
theorem oF(h:T.d=S.d):LA T=LA S:=by grind[LA]
def NP(S:PS)(f:Frame)(h:f.c=4\/f.c=6\/f.c=7):Ee S (S.MZ f) 0 0 (if f.c=7 then 0 else 1) (if f.c=7 then 1 else 0):=by
 unfold PS.MZ;split
 .refine⟨[_],rfl,?_,?_,?_,λ_=>?_⟩;grind[Nz];rw[gh λg j=>by grind[KA]];exact Nat.le_of_eq (Nat.zero_add _);grind[NZ];grind[k7]
 simp[Ee.e]
def Iv(h:(S.installIf B).out=false):Ee S (S.installIf B) 0 0 0 0:=by
 unfold PS.installIf at h|-;split
 .rename_i s
  rw[if_pos s]at h;obtain⟨k,r,-,l⟩:=L6 (fr:=λT(q:Nat)=>⟨7,0,q,_,_,0,0,[],_,_⟩) (P:=λf=>f.c=7) (λ_ _=>rfl) _ S;let⟨j,p⟩:=df S;have o:aV S.a.m S.MF.c=true:=by
   cases e:aV _ _ with
   |true=>rfl
   |false=>unfold PS.install at h;rw[e]at h;cases h
  have t:(S.MF.install S.a.m S.a.a).b=S.b+1/\(S.MF.install S.a.m S.a.a).d=none:=by unfold PS.install;rw[if_pos o];exact⟨by show (S.MF.Mb _).b+1=_;rw[(eh _ _).a,p.a.a],rfl⟩
  refine⟨k,(qt6 _ _ _).trans r,?_,?_,?_,λe=>ω⟩;grind[gh,Nz];grind[gh,KA,LA]
  grind[gh,NZ]
 simp[Ee.e]
def Ou(s:S.n<=6)(j:S.d=some B)(r:B.e=true)(e:(S.MA B).out=false):Ee S (S.MA B) 0 0 0 0:=by
 unfold PS.MA at e|-;split
 .rename_i p
  rw[if_pos p]at e;have z:LA S=6:=by unfold LA;rw[j];simp[r]
  have x:=NG (S:={S with d:=some {B with e:=false,d:=aO S.c},a:=B.b}) (l:=iX (cX B.a (aO S.c)) S.n)
   (fr:=λT(q:Nat)=>⟨5,0,q,T.a.m,T.b,B.g,0,[],T.a.a,({S with d:=some {B with e:=false,d:=aO S.c},a:=B.b}).Mm B.b.a⟩) (λ_ _=>.inr rfl) ((by grind[tz])) λU k w=>oF w.a.f
  have v:=Iv e;have u:=xI (({S with d:=some {B with e:=false,d:=aO S.c},a:=B.b}).Mj {B with e:=false,d:=aO S.c}) {B with e:=false,d:=aO S.c};have h:=x.g v (tE _ _).g u.g;let⟨l,t,g,A,o,y⟩:=h;refine⟨l,t,g,?_,o,y⟩;simp_all[LA]
 simp[Ee.e]
def Kd(S:PS)(b:Int):LA (S.MH b)<=LA S:=by unfold LA;show (if (if S.MY b then S.d else none).any _ then 6 else 0)<=_;grind
def Oq(C:Wf S)(j:(S.MW f).out=false):Ee S (S.MW f) 0 0 (if KA f then 1 else 0) (if OA S.b f then 1 else 0):=by
 unfold PS.MW at j|-;split;simp[Ee.e];rename_i A
 rw[if_neg A]at j;split
 .rename_i t
  unfold PS.MM;split;simp[Ee.e];rename_i r
  rw[(show OA S.b f=true by simp[OA,r,t])];exact(NP S _ (.inr (.inr rfl))).h Ϫ Ϫ (Nat.zero_le _) Ϫ
 rename_i t
 rw[if_neg t]at j;split
 .rename_i r
  rw[if_pos r]at j;unfold PS.L9 at j|-;split
  .have e:∀T:PS,T.e=S.e->T.d=S.d->Ee S (if T.h then T else T.MG) 0 0 (if KA f then 1 else 0) (if OA S.b f then 1 else 0):=λT h k=>by split;grind[Ee.e,oF];exact .e ((jH T _).trans h) (Nat.le_of_eq (oF ((eh T _).f.trans k))) _ _ _ _
   exact e _ (u6 _ _) ((nc _ _).f.trans rfl)
  rename_i F
  rw[if_neg F]at j;split;show Ee S (if (S.My f.f.toNat f.g).g<f.a then (S.My f.f.toNat f.g).MH f.a else S.My f.f.toNat f.g) _ _ _ _;split;exact .e (S:=S) (T:=(S.My f.f.toNat f.g).MH f.a) rfl (Nat.le_trans ((by simp[Kd])) (Nat.le_of_eq (oF (S:=S) (T:=S.My f.f.toNat f.g) rfl))) _ _ _ _;exact .e rfl Ϫ _ _ _ _;rename_i G
  rw[if_neg G]at j;split
  .rename_i k
   unfold PS.MR;split;simp[Ee.e];rw[(show KA f=true by simp[KA,k])];have h:=NP ((S.Mx f.a).suspect f.b) ⟨4,0,f.f,((S.Mx f.a).suspect f.b).a.m,((S.Mx f.a).suspect f.b).b,f.a,((S.Mx f.a).suspect f.b).a.b,((S.Mx f.a).suspect f.b).Ml,((S.Mx f.a).suspect f.b).a.a,((S.Mx f.a).suspect f.b).Mp⟩ (.inl rfl);have g:Ee S ((S.Mx f.a).suspect f.b) 0 0 0 0:=.e (T:=(S.Mx f.a).suspect f.b) (S:=S) rfl (Kd S f.a) _ _ _ _;exact(g.g h ϭ (gp _ _).g).h ω ω Ϫ (Nat.zero_le _)
  rename_i D
  rw[if_neg D]at j;split
  .rename_i k
   rw[if_pos k]at j;unfold PS.Mv at j|-;split;simp[Ee.e];rename_i B m
   rw[m]at j;simp only at j;split
   .rename_i o
    rw[if_pos o]at j;simp only[Bool.and_eq_true,decide_eq_true_eq]at o;have u:=(dq S f.f.toNat f.g).b (bf _ f.d);have h:=Ou (S:={(S.My f.f.toNat f.g).Mc f.d with d:=some (B.f f.f.toNat (f.g,⟨f.e,f.b,f.i⟩))}) (by show ((S.My f.f.toNat f.g).Mc f.d).n<=6;rw[u.n];exact C.c) rfl o.1.2 j;let⟨l,s,p,z,y,v⟩:=h;have x:LA {(S.My f.f.toNat f.g).Mc f.d with d:=some (B.f f.f.toNat (f.g,⟨f.e,f.b,f.i⟩))}=LA S:=by unfold LA;rw[m];rfl
    refine⟨l,s.trans (by rw[jL];rfl),p,ν,ω,λe=>Nat.le_trans (v (e.trans u.a.symm)) (Nat.zero_le _)⟩
   simp[Ee.e]
  rename_i H
  rw[if_neg H]at j;split
  .rename_i k
   unfold PS.MK;split;simp[Ee.e];rw[(show KA f=true by simp[KA,k])];have g:Ee S ({S.Mx f.a with a:=⟨f.a,f.b,f.i⟩}.Mc f.d) 0 0 0 0:=Ee.e (S:=S) (T:={S.Mx f.a with a:=⟨f.a,f.b,f.i⟩}.Mc f.d) (by rw[jL];rfl) (by rw[oF (bf {S.Mx f.a with a:=⟨f.a,f.b,f.i⟩} f.d).f];exact Kd S f.a) _ _ _ _;have h:=NP ({S.Mx f.a with a:=⟨f.a,f.b,f.i⟩}.Mc f.d) ⟨6,0,f.f,0,S.b,f.a,0,[],[],[]⟩ (.inr (.inl rfl));exact(g.g h (by rw[(bf _ _).a];exact ϭ) (gp _ _).g).h ω ω Ϫ (Nat.zero_le _)
  rename_i w
  rw[if_neg w]at j;split
  .rename_i k
   rw[if_pos k]at j;unfold PS.Mk at j|-;split;simp[Ee.e];rename_i B m
   rw[m]at j;simp only at j;split
   .rename_i o
    rw[if_pos o]at j;let⟨l,s,p,z,y,v⟩:=Iv (S:={S with d:=some {B with d:=j9 B.d (aO f.f.toNat)}}) j;have x:LA {S with d:=some {B with d:=j9 B.d (aO f.f.toNat)}}=LA S:=by unfold LA;rw[m];rfl
    exact⟨l,s,p,ν,ω,λe=>ν⟩
   simp[Ee.e]
  rename_i E
  rw[if_neg E]at j;split
  .rename_i k
   rw[if_pos k]at j;refine .e ((qt6 _ _ _).trans (jL S f.d)) ?_ _ _ _ _;show LA ((S.Mc f.d).install f.b f.i)<=LA S;unfold PS.M3 at j;unfold PS.install at j|-;split;exact Nat.zero_le _;rename_i q
   rw[if_neg q]at j;cases j
  simp[Ee.e]
 simp[Ee.e]
end
section
open Codec (Msg Frame aA aK cd)
variable {cr:Book}{n i:Nat}{S T U:PS}{f:Frame}{B:Bal}{st:Nat->PS}{N:Frame->Prop}{A:List Frame}
def OH(U:PS)(q:Nat):∃k,(tickF U q).e=U.e++k/\k.length<=1+U.o.length/\∀f∈k,Nz f=true/\f.f=U.c/\f.j=q/\f.h=U.b:=by
 have d:∀(l:List Msg)(V:PS)(g:Msg->Bool),∃k,(l.foldl (λT m=>if g m then T.MN q m else T) V).e=V.e++k/\k.length<=l.length/\∀f∈k,Nz f=true/\f.f=V.c/\f.j=q/\f.h=V.b:=by
  intro l;induction l with
  |nil=>simp
  |cons m l s=>
   intro V g;have u:∃k,(if g m then V.MN q m else V).e=V.e++k/\k.length<=1/\∀f∈k,Nz f=true/\f.f=V.c/\f.j=q/\f.h=V.b:=by split;unfold PS.MN PS.MZ;split;exact⟨[_],rfl,ς,λf a=>by rw[List.mem_singleton.1 a];exact⟨rfl,rfl,rfl,rfl⟩⟩;simp;simp
   have j:dh V (if g m then V.MN q m else V):=by split;exact j8 V _;exact .e V
   obtain⟨e,v,t,w⟩:=u;obtain⟨b,h,p,c⟩:=s (if g m then V.MN q m else V) g;grind[dh.i,dh.a]
 have r:∃k,(U.gossip q).e=U.e++k/\k.length<=1/\∀f∈k,Nz f=true/\f.f=U.c/\f.j=q/\f.h=U.b:=by unfold PS.gossip PS.MZ;split;exact⟨[_],rfl,ς,λf a=>by rw[List.mem_singleton.1 a];exact⟨rfl,rfl,rfl,rfl⟩⟩;simp
 obtain⟨e,v,t,w⟩:=r;unfold tickF;split;grind;have o:=u7 U q;have x:(U.gossip q).Mp.length=U.o.length:=by rw[ll];exact congrArg _ (ak U _).i
 obtain⟨b,h,p,c⟩:=d _ _ _;refine⟨e++b,(h).trans ν,ν,λf a=>?_⟩;grind[dh.i,dh.a]
def KO(P:Nat->Bool):∀(l:Ϙ)(U:PS),∃k,(l.foldl tickF U).e=U.e++k/\k.countP (λf=>P f.j.toNat)<=(l.filter P).length*(1+U.o.length)/\∀f∈k,Nz f=true/\f.f=U.c/\f.h=U.b
 |[],U=>⟨[],ς,ς,nofun⟩
 |q::l,U=>by let⟨d,o,m,p⟩:=OH U q;obtain⟨e,j,g,h⟩:=KO P l _;have b:=(vf U q);rw[b.i]at g;refine⟨d++e,ν,?_,λf a=>?_⟩;grind[Nat.succ_mul,gh];rcases List.mem_append.1 a with a|a;grind;have:=h f a;rw[b.a.i,b.a.a]at this;omega
def Ir(d:Wf S):Ee S S.Me 0 12 0 0/\(S.M4=false->S.d=none->Ee S S.Me 0 0 0 0):=by
 have b:=d.c;unfold PS.Me;split
 .rename_i c
  simp only[Bool.and_eq_true]at c;refine⟨?_,λk=>ν⟩;rw[u2 d c.1.1];have o:=NG (S:=S.l) (l:=iX (cX S.p.a S.p.c) S.n) (fr:=λT(q:Nat)=>⟨3,0,q,S.p.out,T.b,S.p.g,0,[],[],[]⟩) (λ_ _=>.inl rfl) ((by grind[tz])) λU k a=>oF a.a.f;let⟨l,j,e,m,h,p⟩:=o;refine⟨l,j,e,?_,h,p⟩;have:LA S.l<=6:=by unfold LA;split<;>omega
  exact Nat.le_trans m ω
 split
 .rename_i B g
  refine⟨?_,λ_ k=>ν⟩;unfold PS.Mr;split;exact(NG (λ_ _=>.inl rfl) ((by grind[tz])) λU k a=>oF a.a.f).h Ϫ ω Ϫ Ϫ;exact(NG (λ_ _=>.inr rfl) ((by grind[tz])) λU k a=>oF a.a.f).h Ϫ ω Ϫ Ϫ
 simp[Ee.e]
def Ot(d:i<n)(l:cr i=false):∀(A:List Frame)(S:PS),(∀f∈A,N f/\Codec.dg f=true)->SF cr n (tl st i S) N->
 SF cr n (tl st i ((A.map Codec.im).foldl PS.Mn S)) N/\wy S ((A.map Codec.im).foldl PS.Mn S)/\Ee S ((A.map Codec.im).foldl PS.Mn S) 0 0 (A.countP KA) (A.countP (OA S.b))
 |[],S,_,h=>⟨h,.c S,(by simp[Ee.e])⟩
 |f::A,S,p,h=>by
   let⟨r,j⟩:=p f (List.mem_cons_self ..);have k:=h.a d ⟨f,r,rfl⟩;rw[jg,KH]at k;have g:=dm h d j;obtain⟨a,b,c⟩:=Ot d l A _ (λf j=>ν) k;refine⟨a,g.a b,?_⟩;have o:Ee S (S.Mn (Codec.im f)) 0 0 (if KA f then 1 else 0) (if OA S.b f then 1 else 0):=by
    rcases Ae j S with e|⟨E,-,e⟩
    .simp_all[Ee.e]
    rw[e]at k|-;exact Oq (h.c d).1 (Bo (k.b d l)).2
   rw[List.map_cons,List.foldl_cons];let⟨q,G,t,D,y,w⟩:=o;let⟨s,z,F,C,u,x⟩:=c;have v:=g.g;have m:=b.g;refine⟨q++s,ν,?_,?_,?_,λe=>?_⟩<;>rw[List.countP_append];omega;omega;grind;grind
def SF.d(h:SF cr n (tl st i S) N)(c:i<n)(d:cr i=false){r:Nat}(p:r<i)(g:cr r=false):S.M4=false/\S.d=none:=by obtain⟨X,-,l,j,a,-⟩:=h.l c d;constructor;cases e:S.M4;rfl;have:=l.b6 (Bo a).2 e p;grind;rcases e:S.d with _|B;rfl;have b:=j.lead B e;have:=(l.x.f _ _ (j.prom (by rw[<-b.num];exact b.e))).2.2.1 r (by rw[<-b.num,b.h];omega);grind
def SF.a0(h:SF cr n st N)(p:FT ((st i).Nc (A.map Codec.im)))(s:i<n)(u:cr i=false)(m:(st i).e=[])(hA:∀f∈A,N f/\Codec.dg f=true)(P:Nat->Bool):∃l k,((st i).Nc (A.map Codec.im)).e=l++k/\l.countP Nz=0/\l.countP KA<=18/\(∀r,r<i->cr r=false->l.countP KA=0)/\l.countP NZ<=A.countP KA/\(((st i).Nc (A.map Codec.im)).b=(st i).b->l.countP k7<=A.countP (OA (st i).b))/\
   k.length<=605/\k.countP (λf=>P f.j.toNat)<=((iX (cX ((st i).Nc (A.map Codec.im)).m (aO i)) n).filter P).length*121/\∀f∈k,Nz f=true/\f.f=i/\f.h=((st i).Nc (A.map Codec.im)).b:=by
 obtain⟨a,b,c⟩:=Ot s u A _ hA (by rwa [qn]);have L:(st i).Nc _=((A.map Codec.im).foldl _ (st i)).tick:=rfl;rw[L]at p|-;generalize (A.map _).foldl _ _=S at*;obtain⟨g,c1,c2⟩:=a.c s;have D:=a.b s u;obtain⟨j,t⟩:=pO D;have X:S.Me.o.length<=120:=by have:=p.a1;rwa [t.i]at this
 have o1:=c.g (Ir g).1 b.g (vb g).g;obtain⟨k,E,M,V⟩:=KO P _ _;obtain⟨Y,C,Q,-⟩:=KO (λ_=>true) _ _;have R:k=Y:=by rw[E]at C;exact(by simp_all)
 subst R;obtain⟨l,v,p2,p3,p4,I⟩:=o1;rw[m,List.nil_append]at v;have K:=g.c;have d:S.Me.c=i:=by rwa [(gr S).num]
 have F:S.Me.n=n:=by rwa [(gr S).n]
 have o:S.Me.L8.length<=5:=by
  have x:S.Me.L8.length<(List.range n).length:=by unfold PS.L8 iX;rw[F];refine List.length_filter_lt_length_iff_exists.2 ⟨i,ν,?_⟩;have w:=g.l;rw[lX w.mem w.b5,u5,d];simp
  rw[List.length_range]at x;omega
 have y:LA (st i)<=6:=by unfold LA;split<;>omega
 refine⟨l,k,by rw[Ec D,E,v],ω,ω,λr z q=>?_,ω,λe=>?_,?_,?_,λf hf=>?_⟩;obtain⟨n1,W⟩:=a.d s u z q;have H:=((show SF cr n (tl st i (st i)) N by rwa [qn]).d s u z q).2;have Z:=c.g ((Ir g).2 n1 W) b.g (vb g).g;obtain⟨l',G,-,r3,-⟩:=Z;grind[LA];exact I (by rwa [t.a.a]at e);rw[List.countP_eq_length.2 λ_ _=>rfl,List.filter_eq_self.2 λ_ _=>rfl]at Q;have:=Nat.mul_le_mul o (show 1+S.Me.o.length<=121 by omega);omega;refine Nat.le_trans M (Nat.mul_le_mul (Nat.le_of_eq ?_) ω);unfold PS.L8;rw[F,d,t.a.j];have:=V f hf;rw[d]at this;rw[t.a.a];omega
variable {win lim:Nat}{G:Grp}{L:List Frame}
def cw(n:Nat)(f:Nat->Nat):Nat:=match n with
 |0=>0
 |n+1=>cw n f+f n
def lk{f g:Nat->Nat}:∀{n:Nat},(∀i,i<n->f i<=g i)->cw n f<=cw n g
 |0,_=>Ϫ
 |n+1,h=>Nat.add_le_add (lk λi a=>h i ω) (h n ω)
def ng{f g:Nat->Nat}:∀{n:Nat},cw n (λi=>f i+g i)=cw n f+cw n g
 |0=>rfl
 |n+1=>by simp only[cw,ng];omega
def L5:∀{n:Nat},cw n (λ_=>0)=0
 |0=>rfl
 |n+1=>by simp only[cw,L5]
def LF{f:Nat->Nat}{b:Nat}(e:∀i,f i<=b)(d:∀i j,i<j->f i≠0->f j=0):∀n,cw n f<=b/\(cw n f≠0->∃i,i<n/\f i≠0)
 |0=>⟨Nat.zero_le _,λh=>absurd rfl h⟩
 |n+1=>by let⟨a,c⟩:=LF e d n;grind[cw]
theorem F3{p:Frame->Bool}{g:Nat->List Frame}:∀n,((List.range n).flatMap g).countP p=cw n λi=>(g i).countP p
 |0=>rfl
 |n+1=>by rw[List.range_succ,List.flatMap_append,List.countP_append,F3 n];simp[cw]
def Oa(p:Nat->Frame->Bool)(n:Nat):∀L:List Frame,(cw n λi=>(L.filter λf=>f.j==(i:Int)).countP (p i))<=L.countP λf=>p f.j.toNat f
 |[]=>by simp[L5]
 |f::L=>by
   have g:=Oa p n L;have d:∀i:Nat,((f::L).filter λf=>f.j==(i:Int)).countP (p i)=(L.filter λf=>f.j==(i:Int)).countP (p i)+if f.j=i/\p i f=true then 1 else 0:=λi=>by grind
   have b:=λn=>by
    have:=(LF (b:=if p f.j.toNat f=true then 1 else 0) (λi=>by
     show (if f.j=i/\p i f=true then 1 else 0)<=_;split
     .simp_all
     omega) (λi j a k=>by
     have h:f.j=i:=by refine Classical.byContradiction λc=>k ?_;exact if_neg λx=>c x.1
     exact if_neg λx=>by omega) n).1
    exact this
   rw[congrArg (cw n) (funext d),ng,List.countP_cons];grind
def Py{p:Frame->Bool}:∀L:List Frame,(∀f∈L,p f=true->∃j,j<n/\f.f=(j:Int))->L.countP p<=cw n λj=>L.countP λf=>p f&&f.f==(j:Int)
 |[],_=>by simp
 |f::L,h=>by
   have a:=Py L λf b=>h f (List.mem_cons_of_mem _ b);simp only[List.countP_cons,ng];apply Nat.add_le_add a;by_cases k:p f=true
   .obtain⟨j,d,e⟩:=h f (List.mem_cons_self ..) k;have c:∀n,j<n->1<=cw n λi=>if (p f&&f.f==i)=true then 1 else 0:=by
     intro n;induction n with
     |zero=>omega
     |succ n a=>
      grind[cw]
    grind
   grind
def GS{lim:Nat}:∀(b a:List (Int×ϝ)),a.length<=lim->tr lim a b=(a++b).take lim
 |[],a,h=>by rw[List.append_nil,List.take_of_length_le h];rfl
 |c::b,a,h=>by have e:tr lim a (c::b)=tr lim _ b:=rfl;rw[e];unfold tt;split;rw[GS b _ ν,List.append_assoc];rfl;have:a.length=lim:=ω;rw[GS b a h,List.take_append,List.take_append,this];simp
def Pz{a:Type}(A B:List a)(n:Nat):(A.take n++B).take n=(A++B).take n:=by grind[List.take_append]
def Grp.LQ(G:Grp):List Frame:=(List.range G.n).flatMap λi=>(G.MU.b i).e
def N2(G:Grp):G.round.a=(G.LQ.take G.c).map zY:=
 have a:∀k,(carried G.MU k).a=(((List.range k).flatMap λi=>(G.MU.b i).e).take G.c).map zY:=by
  intro k;induction k with
  |zero=>simp[carried];rfl
  |succ k b=>
   rw[lU];have c:=(jG (List.range k) G.MU (Nat.zero_le _)).2.2.2;show tr _ _ _=_;rw[lj,if_neg (Nat.lt_irrefl k),b,show (carried G.MU k).c=G.c from c,GS _ _ ν,<-List.map_append,<-List.map_take,Pz,List.range_succ,List.flatMap_append];simp
 a G.n
theorem NQ(G:Grp)(a:i<G.n):G.round.b i={G.MU.b i with e:=[]}:=by have:=lj G.MU i G.n;rwa [if_pos a]at this
def Pw(a:G.a=L.map zY)(i:Nat):G.MU.b i=(G.b i).Nc ((L.filter λf=>f.j==(i:Int)).map Codec.im):=by show (G.b i).Nc _=_;unfold Grp.MT;rw[a,List.filter_map,List.map_map];rfl
def Pd(h:S.f=true)(l:List (Ϭ)):S.Nc l=S:=by
 have c:S.MC≠0:=by unfold PS.MC;rw[h,if_pos rfl];decide
 have a:∀l:List _,l.foldl PS.Mn S=S:=by
  intro l;induction l with
  |nil=>rfl
  |cons s l b=>
   grind[PS.Mn]
 show (l.foldl _ S).tick=S;simp_all[oB]
structure NY(cr:Book)(G:Grp)(L:List Frame):Prop where
 net:G.a=L.map zY
 b:∀f∈L,Codec.dg f=true
 Qo:L.countP KA<=18
 Qp:L.countP NZ<=18
 e:∀f∈L,Nz f=true->∃j,j<G.n/\cr j=false/\f.f=(j:Int)/\f.h=(G.b j).b
 l:∀j,j<G.n->∀P:Nat->Bool,L.countP (λf=>(Nz f&&f.f==(j:Int))&&P f.j.toNat)<=((List.range G.n).filter λq=>P q&&decide (q≠j)).length*121
theorem OF(h:Nz f=true):KA f=false/\NZ f=false/\k7 f=false:=by grind[Nz,KA,NZ,k7]
def NL{a:Type}{p q:a->Bool}{l:List a}(h:∀x∈l,p x=true->q x=true):(l.filter p).length<=(l.filter q).length:=by rw[<-List.countP_eq_length_filter,<-List.countP_eq_length_filter];exact List.countP_mono_left h
def dY.Ns(h:dY n win lim G cr)(C:G.a=L.map zY)(a:∀f∈L,Codec.dg f=true)(p:i<n)(B:cr i=false)(P:Nat->Bool):∃l k,(G.MU.b i).e=l++k/\l.countP Nz=0/\l.countP KA<=18/\(∀r,r<i->cr r=false->l.countP KA=0)/\l.countP NZ<=(L.filter λf=>f.j==(i:Int)).countP KA/\((G.MU.b i).b=(G.b i).b->l.countP k7<=(L.filter λf=>f.j==(i:Int)).countP (OA (G.b i).b))/\
   k.length<=605/\k.countP (λf=>P f.j.toNat)<=((List.range n).filter λq=>P q&&decide (q≠i)).length*121/\∀f∈k,Nz f=true/\f.f=i/\f.h=(G.MU.b i).b:=by
 have g:=h.ft i p;let⟨X,s⟩:=h.sf;have u:=(s.b i p).a;have c:=u.b6 ((L.filter λf=>f.j==(i:Int)).map Codec.im);obtain⟨l,k,t,D,A,z,F,m,E,o,j⟩:=SF.a0 (A:=L.filter λf=>f.j==(i:Int)) ⟨X,s⟩ (g.x u _) p B (h.a.snt i p) (λf e=>
  have e:=(List.mem_filter.1 e).1
  ⟨⟨a f e,ν⟩,a f e⟩) P
 rw[<-Pw C]at t m o j c;refine⟨l,k,t,D,A,z,F,m,E,Nat.le_trans o (Nat.mul_le_mul_right _ ?_),j⟩;unfold iX;rw[List.filter_filter];refine NL λq _ x=>?_;rw[Bool.and_eq_true,lX c.mem (.c (ϕ h.a.g)),Bool.and_eq_true,u5]at x;grind
def dY.ND(h:dY n win lim G cr)(c:i<n)(d:cr i=true):(G.MU.b i).e=[]:=by show ((G.b i).Nc _).e=[];rw[Pd (h.a.e c▸d)];exact h.a.snt i c
def dY.N5(h:dY n win lim G cr):∀f∈G.LQ,Codec.dg f=true:=λf a=>
 let ⟨X,s⟩:=h.a.m
 let ⟨i,c,a⟩:=List.mem_flatMap.1 a
 ((s.b i (by have:=h.a.n;grind)).snt f a).1
def KY{k:List Frame}(h:∀f∈k,Nz f=true):k.countP KA=0/\k.countP NZ=0/\k.countP k7=0:=⟨(by grind[OF]),(by simp_all[OF]),(by simp_all[OF])⟩
def dY.Pg(h:dY n win lim G cr)(q:G.a=L.map zY)(a:∀f∈L,Codec.dg f=true):(cw n λi=>(G.MU.b i).e.countP KA)<=18:=by
 have s:=(LF (f:=λi=>if i<n then (G.MU.b i).e.countP KA else 0) (λi=>by
  split
  .rename_i m
   cases b:cr i with
   |true=>rw[h.ND m b];simp
   |false=>
    obtain⟨l,k,o,-,u,-,-,-,-,-,e⟩:=h.Ns q a m b λ_=>true;rw[o,List.countP_append,(KY λf g=>(e f g).1).1];omega
  omega) (λi j r t=>by
  split
  .rename_i p
   cases b:cr j with
   |true=>rw[h.ND p b];rfl
   |false=>
    obtain⟨l,k,o,-,-,v,-,-,-,-,e⟩:=h.Ns q a p b λ_=>true;rw[o,List.countP_append,(KY λf g=>(e f g).1).1];cases d:cr i;grind;exfalso
    apply t;rw[if_pos ω,h.ND ω d];rfl
  rfl) n).1
 refine Nat.le_trans (lk λi m=>?_) s;grind
def dY.PN(h:dY n win lim G cr)(j:G.a=L.map zY)(a:∀f∈L,Codec.dg f=true):(cw n λi=>(G.MU.b i).e.countP NZ)<=L.countP KA:=by
 refine Nat.le_trans (lk λi d=>?_) (Oa (λ_ f=>KA f) n L);cases b:cr i with
 |true=>rw[h.ND d b];simp
 |false=>
  obtain⟨l,k,m,-,-,-,o,-,-,-,e⟩:=h.Ns j a d b λ_=>true;simp_all[KY]
def dY.Qc(h:dY n win lim G cr)(q:G.a=L.map zY)(a:∀f∈L,Codec.dg f=true):(G.LQ.take lim).countP NZ<=L.countP KA/\((G.LQ.take lim).countP NZ<=18->NY cr G.round (G.LQ.take lim)):=by
 have B:=h.a.n;have F:=h.a.lim;have w:=h.round.a.n;have b:(G.LQ.take lim).Sublist _:=List.take_sublist _ _;have z:=h.Pg q a;have C:=h.PN q a;have s:∀p,G.LQ.countP p=cw n λi=>(G.MU.b i).e.countP p:=λp=>by grind[Grp.LQ,F3]
 refine⟨Nat.le_trans (b.countP_le) ν,λc=>⟨by rw[N2,F],λf d=>h.N5 f (b.subset d),Nat.le_trans b.countP_le ν,c,λf d A=>?_,λj E P=>?_⟩⟩
 .let⟨i,o,d⟩:=List.mem_flatMap.1 (b.subset d);have o:i<n:=by rw[<-B];exact ν
  cases m:cr i with
  |true=>rw[h.ND o m]at d;cases d
  |false=>
   obtain⟨l,k,t,v,-,-,-,-,-,-,r⟩:=h.Ns q a o m λ_=>true;grind[NQ]
 rw[w]at E|-;apply Nat.le_trans b.countP_le;rw[s];have y:=(LF (f:=λi=>if i<n then (G.MU.b i).e.countP (λf=>(Nz f&&f.f==j)&&P f.j.toNat) else 0) (λi=>by
  show (if i<n then _ else 0)<=_;split
  .rename_i o
   cases m:cr i with
   |true=>rw[h.ND o m];simp
   |false=>
    obtain⟨l,k,t,v,-,-,-,-,-,x,r⟩:=h.Ns q a o m P;rw[t,List.countP_append,gh λf d=>by have:=List.countP_eq_zero.1 v f d;simp[this],Nat.zero_add]
    by_cases e:i=j
    subst e;exact Nat.le_trans (List.countP_mono_left λf _ d=>by grind) x;grind[gh]
  omega) (λi D H A=>by
  show (if D<n then _ else 0)=0;split
  .rename_i u
   have I:i=j:=by
    refine Classical.byContradiction λe=>A ?_;show (if i<n then _ else 0)=0;rw[if_pos ω];cases m:cr i with
    |true=>rw[h.ND ω m];rfl
    |false=>
     obtain⟨l,k,t,v,-,-,-,-,-,x,r⟩:=h.Ns q a ω m P;grind
   cases m:cr D with
   |true=>rw[h.ND u m];rfl
   |false=>
    obtain⟨l,k,t,v,-,-,-,-,-,x,r⟩:=h.Ns q a u m P;grind
  rfl) n).1
 refine Nat.le_trans (lk λi o=>?_) y;grind
def PF(cr:Book)(n:Nat)(v:Nat->Int)(j:Nat):Nat:=((List.range n).filter λq=>!cr q&&decide (v j<v q)).length
def Ol(h:Codec.dg f=true):f.c=1\/f.c=2\/f.c=3\/f.c=4\/f.c=5\/f.c=6\/f.c=7:=by simp only[Codec.dg,Codec.dk,Bool.and_eq_true,Codec.de]at h;omega
def N0{q r:Frame->Bool}{l:List Frame}(h:∀f∈l,q f=true->KA f=true\/NZ f=true\/r f=true):l.countP q<=l.countP KA+l.countP NZ+l.countP r:=by
 induction l with
 |nil=>simp
 |cons f l a=>
  grind
def NY.p(s:NY cr G L)(h:dY n win lim G cr)(r:∀i,i<n->cr i=false->(G.MU.b i).b=(G.b i).b):G.LQ.length<=72+cw n λj=>if cr j then 0 else 605+121*PF cr n (λq=>(G.b q).b) j:=by
 have o:=h.a.n;have z:G.LQ.length=cw n λi=>(G.MU.b i).e.length:=by have:∀l:List Frame,l.length=l.countP λ_=>true:=λl=>(List.countP_eq_length.2 λ_ _=>rfl).symm;rw[this];unfold Grp.LQ;rw[o,F3 n];exact ς
 have C:=h.Pg s.net s.b;have E:=Nat.le_trans (h.PN s.net s.b) s.Qo;have F:G.LQ.length<=cw n λi=>(if cr i then 0 else 605)+((G.MU.b i).e.countP KA+((G.MU.b i).e.countP NZ+(L.filter λf=>f.j==(i:Int)).countP λf=>!cr i&&OA (G.b i).b f)):=by
  rw[z];refine lk λi m=>?_;cases g:cr i with
  |true=>rw[h.ND m g];simp
  |false=>
   obtain⟨l,k,B,H,-,-,-,u,W,-,y⟩:=h.Ns s.net s.b m g λ_=>true;have D:=N0 (q:=λ_=>true) (r:=k7) (l:=l) λf a _=>by
    have v:=List.countP_eq_zero.1 H f a;rcases Ol (h.N5 f (List.mem_flatMap.2 ⟨i,List.mem_range.2 ω,ν⟩))with e|e|e|e|e|e|e;grind[Nz];grind[Nz]
    grind[KA]
    grind[NZ]
    grind[KA]
    grind[NZ]
    grind[k7]
   rw[List.countP_eq_length.2 λ_ _=>rfl]at D;have c:=KY λf a=>(y f a).1;have u:=u (r i m g);rw[B,List.length_append,List.countP_append,List.countP_append,c.1,c.2.1];simp only[Bool.not_false,Bool.true_and];grind
 have Q:=Oa (λi f=>!cr i&&OA (G.b i).b f) n L;have M:=N0 (q:=λf=>!cr f.j.toNat&&OA (G.b f.j.toNat).b f) (r:=λf=>Nz f&&(!cr f.j.toNat&&OA (G.b f.j.toNat).b f)) λf a b=>by
  have A:f.c≠7:=by unfold OA at b;simp only[Bool.and_eq_true,bne_iff_ne]at b;exact b.2.1
  rcases Ol (s.b f a)with e|e|e|e|e|e|e;grind[Nz];grind[Nz]
  grind[KA]
  grind[NZ]
  grind[KA]
  grind[NZ]
  omega
 have P:=Py (n:=n) (p:=λf=>Nz f&&(!cr f.j.toNat&&OA (G.b f.j.toNat).b f)) L λf a b=>by rw[Bool.and_eq_true]at b;obtain⟨j,t,-,e,-⟩:=s.e f a b.1;grind
 have O:(cw n λj=>L.countP λf=>(Nz f&&(!cr f.j.toNat&&OA (G.b f.j.toNat).b f))&&f.f==(j:Int))<=cw n λj=>if cr j then 0 else 121*PF cr n (λq=>(G.b q).b) j:=by
  refine lk λj t=>?_;cases g:cr j with
  |true=>
   rw[gh λf a=>?_];omega;refine Bool.eq_false_iff.2 λc=>?_;simp only[Bool.and_eq_true,beq_iff_eq]at c;obtain⟨w,-,R,x,-⟩:=s.e f a c.1.1;grind
  |false=>
   simp only[Bool.false_eq_true,if_false];refine Nat.le_trans (Nat.le_trans (List.countP_mono_left λf a c=>?_) (s.l j (show j<G.n by rwa [o]) λq=>!cr q&&decide ((G.b j).b<(G.b q).b))) ?_;simp only[Bool.and_eq_true,beq_iff_eq]at c;obtain⟨w,-,-,x,N⟩:=s.e f a c.1.1;grind[OA];rw[Nat.mul_comm,o];refine Nat.mul_le_mul_left _ (NL λq _ b=>?_);grind
 have V:(cw n λj=>if cr j then 0 else 605+121*PF cr n (λq=>(G.b q).b) j)=(cw n λj=>if cr j then 0 else 605)+cw n λj=>if cr j then 0 else 121*PF cr n (λq=>(G.b q).b) j:=by rw[<-ng];refine congrArg (cw n) (funext λj=>?_);split<;>rfl
 rw[ng,ng,ng]at F;grind[Qo,Qp]
variable {X:Gh}{m:Int}{a:Nat}
def Qf{u:Nat}(a:X.D[u]?=some m):X.a n ((u+1:Nat):Int)=m:=by grind[Gh.a]
def XI.j(x:XI X cr n)(p:n<=6){v:Nat}(l:v<X.D.length):ir (X.a n ((v+1:Nat):Int))<ir (X.a n v):=by obtain⟨m,d⟩:∃m,X.D[v]?=some m:=⟨_,List.getElem?_eq_getElem l⟩;obtain⟨a,w,-,c,e,g⟩:=x.w d;rw[Qf d];exact OP w a (Nat.lt_of_lt_of_le (x.o p _ rfl ω e) p) g e
def XI.l(x:XI X cr n)(d:n<=6):∀v:Nat,v<=X.D.length->ir (X.a n v)+v<=n
 |0,_=>
  have:∀n,n<7->ir (2^n-1)+0<=n:=θ;this n ω
 |v+1,e=>by have:=x.j d e;have:=XI.l x d v ω;omega
def Ed(cr:Book)(n:Nat):Nat:=cw n λi=>if cr i then 0 else 1
theorem NV(cr:Book):∀n,Ed cr n=((List.range n).filter λi=>!cr i).length
 |0=>rfl
 |n+1=>by rw[List.range_succ,List.filter_append,List.length_append,<-NV cr n];grind[Ed,cw]
def OQ(h:Up cr n m)(a:n<=6):Ed cr n<=ir m:=by rw[NV];unfold ir iX;rw[<-List.countP_eq_length_filter,<-List.countP_eq_length_filter];exact Nat.le_trans (List.countP_mono_left λi b k=>h i ν ν) (List.range_sublist.2 a).countP_le
def P6(cr:Book)(n:Nat):Ed cr n<=n:=by grind[NV]
def Eb{f:Nat->Nat}(c:Nat):∀n,(cw n λi=>c*f i)=c*cw n f
 |0=>rfl
 |n+1=>by simp only[cw,Eb c n,Nat.mul_add]
def PM{f:Nat->Nat}{c:Nat}(h:∀i,i<n->cr i=false->f i<=c):(cw n λi=>if cr i then 0 else f i)<=c*Ed cr n:=by unfold Ed;rw[<-Eb];refine lk λi a=>?_;grind
def Pt{v:Nat->Int}(r:n<=6)(g:∀i,i<n->cr i=false->0<=v i/\v i+Ed cr n<=n):(cw n λj=>if cr j then 0 else 605+121*PF cr n v j)<=3872:=by
 have a:=P6 cr n;by_cases t:Ed cr n<=4
 .have k:=PM (cr:=cr) (n:=n) (f:=λj=>605+121*PF cr n v j) (c:=605+121*(Ed cr n-1)) λj b a=>by
   have:PF cr n v j<Ed cr n:=by
    rw[NV];unfold PF;have e:((List.range n).filter λq=>!cr q&&decide (v j<v q))=((List.range n).filter λq=>!cr q).filter λq=>decide (v j<v q):=by rw[List.filter_filter];exact ν
    rw[e];exact List.length_filter_lt_length_iff_exists.2 ⟨j,List.mem_filter.2 ⟨ν,by simp[a]⟩,ς⟩
   omega
  generalize Ed cr n=u at*;have:u=0\/u=1\/u=2\/u=3\/u=4:=ω;grind
 have w:∀j,j<n->cr j=false->PF cr n v j<=if v j<=0 then (cw n λq=>if cr q then 0 else if v q<=0 then 0 else 1) else 0:=λj b a=>
  have d:∀m,m<=n->((List.range m).filter λq=>!cr q&&decide (v j<v q)).length<=if v j<=0 then (cw m λq=>if cr q then 0 else if v q<=0 then 0 else 1) else 0:=by
   intro m;induction m with
   |zero=>simp
   |succ m c=>
    intro A;have c:=c ω;rw[List.range_succ,List.filter_append,List.length_append];have l:=g j b a;by_cases h:v j<=0;rw[if_pos h]at c|-;grind[cw];grind
  d n Ϫ
 have k:(cw n λj=>if cr j then 0 else 605+121*PF cr n v j)<=605*Ed cr n+(121*(cw n λq=>if cr q then 0 else if v q<=0 then 0 else 1))*(cw n λq=>if cr q then 0 else if v q<=0 then 1 else 0):=by
  unfold Ed;rw[<-Eb,<-Eb,<-ng];refine lk λj b=>?_;cases x:cr j with
  |true=>simp
  |false=>
   grind
 have y:Ed cr n=(cw n λq=>if cr q then 0 else if v q<=0 then 0 else 1)+cw n λq=>if cr q then 0 else if v q<=0 then 1 else 0:=by unfold Ed;rw[<-ng];refine congrArg (cw n) (funext λq=>?_);split;rfl;grind
 have s:Ed cr n=6->(cw n λq=>if cr q then 0 else if v q<=0 then 0 else 1)=0:=λe=>by refine Nat.le_zero.1 (Nat.le_trans (lk λq p=>?_) (Nat.le_of_eq (L5 (n:=n))));grind
 generalize (cw n λq=>if cr q then 0 else if v q<=0 then 0 else 1)=o at*;generalize (cw n λq=>if cr q then 0 else if v q<=0 then 1 else 0)=z at*;have:Ed cr n=5\/Ed cr n=6:=ω;rcases this with e|e;have:o=0\/o=1\/o=2\/o=3\/o=4\/o=5:=ω;grind;grind
def OG(cr:Book)(a:Nat):Nat->Grp->Grp
 |0,G=>G
 |k+1,G=>if !cr a&&cr k then (OG cr a k G).suspect a k else OG cr a k G
def bp(cr:Book)(n:Nat):Nat->Grp->Grp
 |0,G=>G
 |k+1,G=>OG cr k n (bp cr n k G)
def Grp.bc(cr:Book)(G:Grp):Grp:=(bp cr G.n G.n G).round
structure PO(G H:Grp):Prop where
 net:H.a=G.a
 n:H.n=G.n
 st:∀i,H.b i={G.b i with k:=(H.b i).k}
 c:∀i,i<G.n->N6 (G.b i).k (H.b i).k
def PO.d(G:Grp):PO G G:=⟨rfl,rfl,λ_=>rfl,λ_ _ _ h=>h⟩
def PO.b{H K:Grp}(h:PO G H)(k:PO H K):PO G K:=⟨k.net.trans h.net,k.n.trans h.n,λi=>by rw[k.st i,h.st i],λi a q b=>k.c i (by grind[n]) q (h.c i a q b)⟩
def dY.Qd(h:dY n win lim G cr){b:Nat}(t:a<n)(x:b<n)(p:cr a=false)(j:cr b=true):dY n win lim (G.suspect a b) cr/\PO G (G.suspect a b)/\(aV (G.b a).m b=true->aV ((G.suspect a b).b a).k b=true):=by
 have r:=dY.suspect a b t x j h;obtain⟨X,-,P,-,l,-⟩:=h.pj t p;have g:b≠(G.b a).c:=by rw[P.num];intro e;rw[e,p]at j;cases j
 have e:(G.b a).Mu b=(G.b a).suspect (aO b):=by unfold PS.Mu;rw[if_pos ⟨g,l⟩]
 have d:b<6:=by have:=h.a.g;omega
 refine⟨r,⟨rfl,rfl,λi=>?_,λi _ q u=>?_⟩,λy=>?_⟩
 .show (if i=a then (G.b a).Mu b else G.b i)={G.b i with k:=(if i=a then (G.b a).Mu b else G.b i).k};split
  .rename_i k;subst k;rw[e];rfl
  rfl
 .show aV (if i=a then (G.b a).Mu b else G.b i).k q=true;split
  .rename_i k;subst k
   exact(N8 P.a d).sus (by rw[e];rfl) q u
  omega
 show aV (if a=a then (G.b a).Mu b else G.b a).k b=true;rw[if_pos rfl,e];show aV (j9 _ _) b=true;rw[tj P.a.sus (bj.c d).d.g,lX (bj.c d).d P.a.b5,gn (.c d) P.a.mem,y,u5,u5];grind
def dY.Qg(h:dY n win lim G cr)(g:a<n):∀k,k<=n->dY n win lim (Md.OG cr a k G) cr/\PO G (Md.OG cr a k G)/\(cr a=false->∀b,b<k->cr b=true->aV (G.b a).m b=true->aV ((Md.OG cr a k G).b a).k b=true)
 |0,_=>⟨h,.d G,λ_ b t=>ω⟩
 |k+1,v=>by
   let⟨r,s,c⟩:=dY.Qg h g k ω;unfold Md.OG;split
   .rename_i e
    simp only[Bool.and_eq_true,Bool.not_eq_true']at e;let⟨o,j,u⟩:=r.Qd g ω e.1 e.2;refine⟨o,s.b j,λp b t q l=>?_⟩;by_cases m:b=k;subst m;exact u (by rwa [s.st a]);exact j.c a (by rwa [s.n,h.a.n]) b (c p b ω q l)
   grind
def dY.P8(h:dY n win lim G cr):∀k,k<=n->dY n win lim (Md.bp cr n k G) cr/\PO G (Md.bp cr n k G)/\∀a,a<k->cr a=false->∀b,b<n->cr b=true->aV (G.b a).m b=true->aV ((Md.bp cr n k G).b a).k b=true
 |0,_=>⟨h,.d G,λa q=>ω⟩
 |k+1,u=>by let⟨r,s,c⟩:=dY.P8 h k ω;obtain⟨p,m,t⟩:=r.Qg (a:=k) ω n Ϫ;refine⟨p,s.b m,λa q g b l j o=>?_⟩;by_cases e:a=k;subst e;exact t g b l j (by rwa [s.st a]);exact m.c a (by rw[s.n,h.a.n];omega) b (c a ω g b l j o)
end
section
open Codec (Msg Frame aA aK cd)
variable {cr:Book}{n win i:Nat}{f:Frame}{G:Grp}{L:List Frame}{q:Nat}
structure Qi(cr:Book)(n:Nat)(G:Grp)(i:Nat):Prop where
 b:Hi (G.MU.b i)
 num:(G.MU.b i).c=i
 c:(G.MU.b i).n=n
 d:Up cr n (G.MU.b i).m
 able:(G.MU.b i).MC=0
def dY.PE(h:dY n win 4000 G cr)(b:i<n)(g:cr i=false):0<=(G.b i).b/\(G.b i).b+ir (G.b i).m<=n/\Ed cr n<=ir (G.b i).m:=by obtain⟨X,s,l,J,-,u⟩:=h.pj b g;have k:=l.a.view.1;have:=s.x.l h.a.g.2 _ J.a;rw[show (((G.b i).b.toNat:Nat):Int)=(G.b i).b by omega,<-J.mem]at this;exact⟨k,ω,OQ u h.a.g.2⟩
def dY.P9(h:dY n win 4000 G cr)(b:i<n)(g:cr i=false):Qi cr n G i:=by let⟨X,s,q,J,d,u⟩:=h.a.m.k b g;have l:=h.round.PE b g;rw[NQ G (i:=i) (by rwa [h.a.n])]at l;have t:(G.MU.b i).b+ir _<=n:=l.2.1;exact⟨⟨q.a,(h.ft i b).x ((h.sf.j (i:=i)).c b).1 _,by have:=h.a.g;omega⟩,q.num,q.d,u,d⟩
def dY.Pf(h:dY n win 4000 G cr)(c:i<n)(e:cr i=false)(g:aV (G.b i).m q=true):q<n:=by obtain⟨X,s,l,J,-⟩:=h.pj c e;rw[J.mem]at g;exact s.x.o h.a.g.2 _ rfl J.a g
structure Ql(cr:Book)(n win:Nat)(G H:Grp):Prop where
 d:H=bp cr n n G
 r:dY n win 4000 H cr
 sus:PO G H
 c:∀a,a<n->cr a=false->∀b,b<n->cr b=true->aV (G.b a).m b=true->aV (H.b a).k b=true
def dY.NX(h:dY n win 4000 G cr):Ql cr n win G (Md.bp cr n n G):=
 let ⟨a,b,c⟩:=h.P8 n Ϫ
 ⟨rfl,a,b,c⟩
theorem Grp.Kg(h:dY n win 4000 G cr):G.bc cr=(bp cr n n G).round:=by unfold Grp.bc;rw[h.a.n]
def dY.Is(h:dY n win 4000 G cr):dY n win 4000 (G.bc cr) cr:=by rw[Grp.Kg h];exact .round h.NX.r
theorem ln(h:dY n win 4000 G cr)(b:i<n):(G.bc cr).b i={(bp cr n n G).MU.b i with e:=[]}:=by rw[Grp.Kg h,NQ _ (by rwa [h.NX.r.a.n])]
def Od(h:dY n win 4000 G cr)(k:i<n):(G.b i).b<=((G.bc cr).b i).b/\∀(u:Nat)e,(G.b i).i[u]?=some e->((G.bc cr).b i).i[u]?=some e:=by have t:=h.NX;obtain⟨u,a,b,e⟩:=t.r.sf.e k t.r.a.i.2 wy.c (λ_ _ _=>wy.a) λS f h _ j _=>dm h k j;have g:=b.a (iE (a.c k).1);have q:(bp cr n n G).MU.b i=u.tick:=e;rw[ln h k,q];have p:=g.g;have o:=g.k;rw[t.sus.st i]at p o;exact⟨p,o⟩
def Of(cr:Book)(n:Nat)(G:Grp):Prop:=∀i,i<n->cr i=false->((G.bc cr).b i).b=(G.b i).b
def NY.a(s:NY cr G L)(h:dY n win 4000 G cr)(l:Of cr n G):NY cr (G.bc cr) (bp cr n n G).LQ:=by
 have t:=h.NX;have w:∀j,((bp cr n n G).b j).b=(G.b j).b:=λj=>by rw[t.sus.st j]
 have g:NY cr _ L:=⟨t.sus.net.trans s.net,s.b,s.Qo,s.Qp,λf l u=>
  let ⟨j,a,b,c,d⟩:=s.e f l u
  ⟨j,by rwa [t.sus.n],b,c,ν⟩,λj p P=>by
  rw[t.sus.n]at p|-;exact s.l j p P⟩
 have v:=g.p t.r λi k m=>by have:=l i k m;grind[ln]
 have x:=Pt (v:=λq=>((bp cr n n G).b q).b) h.a.g.2 λi k m=>by have:=t.r.PE k m;omega
 have o:=t.r.Qc g.net g.b;grind[Qo,List.take_of_length_le,Grp.Kg]
def NY.d(s:NY cr G L)(a:f∈L):ga G.a f:=⟨s.b f a,by rw[s.net];grind⟩
def tC(h:dY n win 4000 G cr)(b:i<n)(c:f∈((bp cr n n G).MU.b i).e):f∈(bp cr n n G).LQ:=
 List.mem_flatMap.2 ⟨i,List.mem_range.2 (by rwa [h.NX.r.a.n]),c⟩
def Qi.a{H:Grp}(w:Qi cr n H i)(g:∃S:PS,H.MU.b i=S.tick/\S.MC=0/\Wf S)(c:q<n)(d:cr q=false)(h:q≠i):K8 (H.MU.b i) q∈(H.MU.b i).e/\na (K8 (H.MU.b i) q) q n=true:=by obtain⟨S,e,j,-⟩:=g;have a:=w.b;have l:=w.num;have k:=w.c;have b:=w.d q c d;grind[Oy,OD,Hi.a]
def dY.NH(h:dY n win 4000 G cr)(g:i<n)(k:cr i=false):∃S:PS,G.MU.b i=S.tick/\S.MC=0/\Wf S:=by have o:=h.a.n;have b:=h.sf;obtain⟨m,a,-,e⟩:=b.e g h.a.i.2 (λ_=>trivial) (λ_ _ _ _ _=>trivial) λ_ _ _ _ _ _=>trivial;exact⟨m,e,a.b g k,(a.c g).1⟩
def PV(s:NY cr G L)(h:dY n win 4000 G cr)(B:Of cr n G)(K:Of cr n (G.bc cr)){a:Nat}(u:a<n)(k:cr a=false)(j:q<n)(d:cr q=false)(hv:(G.b q).b<(G.b a).b):¬Of cr n ((G.bc cr).bc cr):=λR=>by
 have A:=h.Is;have H:=A.Is;have F:=s.a h B;have X:=F.a A K;have I:=h.NX;have t:=A.NX;have p:=H.NX;have x:=B q j d;have M:=B a u k;have Q:=K q j d;have E:=R q j d;have w:=I.r.P9 j d;let⟨g1,W⟩:=w.a (I.r.NH j d) u k (λe=>by grind);have Z:=F.d (tC h j g1);have y:(K8 ((bp cr n n G).MU.b q) a).h=(G.b q).b:=by rwa [ln h j]at x
 have v:(K8 ((bp cr n n G).MU.b q) a).f=q:=by show (((bp cr n n G).MU.b q).c:Int)=q;rw[w.num]
 have o:=t.r.sf;have N:=t.r.a.n;have l:=h.PE j d;let⟨g,T,V,P,O,Y,k6⟩:=o.z t.r.a.i.2 (t.r.ft a u) h.a.g.2 u k (by rwa [t.sus.net]) rfl W (by show 2≠7;decide) (by rw[t.sus.st a,y];grind) (by have:=h.a.g;omega);have U:=X.d (tC A u T);have m:=p.r.sf;have S:=p.r.a.n;have:=m.x p.r.a.i.2 j d (by rwa [p.sus.net]) (O.trans v) ν V (by rw[p.sus.st q,Y,y];grind) P u k;have this:((bp cr n n ((G.bc cr).bc cr)).b q).b<((bp cr n n ((G.bc cr).bc cr)).MU.b q).b:=this;have es:((bp cr n n ((G.bc cr).bc cr)).b q).b=(((G.bc cr).bc cr).b q).b:=by rw[p.sus.st q]
 grind[ln]
end
section
open Codec (Msg Frame aA aK cd)
section
def GB(S:PS)(B:Bal):Prop:=(B.e=true->(decide (B.c=B.a)&&S.Nj B.c)=false/\aV B.c S.c=true)/\(B.e=false->S.Nj B.d=false/\aV B.d S.c=true)
def GJ(S:PS):Prop:=S.out=false->∀B,S.d=some B->GB S B
variable {S T U:PS}{f:Frame}{B:Bal}{m:Int}{cut:Υ}
def GB.a(h:GB S B)(a:T.m=S.m)(b:T.c=S.c):GB T B:=by grind[GB,PS.Nj]
def GJ.a(h:GJ S)(b:T.d=S.d\/T.d=none)(c:T.m=S.m)(d:T.c=S.c)(g:T.out=S.out):GJ T:=λo B a=>by rcases b with e|e;exact(h ν B ν).a c d;grind
def GJ.d(h:GJ S)(k:dh S T):GJ T:=h.a (.inl k.f) k.j k.i k.out
theorem NM(S:PS)(m:Int)(cut:Υ):GJ (S.install m cut):=by
 unfold PS.install;split;exact λ_ B a=>by cases a
 exact λo=>by cases o
def K7(b:S.d=some B)(d:B.e=false)(c:aV B.d S.c=true):GJ (S.installIf B):=by unfold PS.installIf;split;grind[NM];intro _ C a;rw[b]at a;injection a with a;subst a;exact⟨(λk=>by grind),λ_=>⟨ν,c⟩⟩
def OY(c:S.d=some B)(e:B.e=true)(d:aV B.c S.c=true):GJ (S.MA B):=by unfold PS.MA;split;obtain⟨k,b⟩:=bo _ _;exact K7 b.a.f rfl (by rw[b.a.i];grind[u5]);intro _ C a;rw[c]at a;injection a with a;subst a;exact⟨λ_=>⟨ν,d⟩,λk=>ν⟩
def Ls{x:Int}{q r:Nat}(a:bj x)(b:q<6)(h:aV x r=true):aV (j9 x (aO q)) r=true:=by grind[tj,bj.c]
def GJ.b(h:GJ S)(b:Int):GJ (S.MH b):=by refine h.a ?_ rfl rfl rfl;show (if S.MY b then S.d else none)=S.d\/(if S.MY b then S.d else none)=none;grind
def GJ.e(h:GJ S)(c:Wf S)(e:S.out=false)(i:FrW S.n f):GJ (S.MW f):=by
 have d:=Nat.lt_of_lt_of_le i.q c.c;unfold PS.MW;split;exact h;split;unfold PS.MM;split;exact h;exact h.d (j8 S _);split
 .unfold PS.L9;split;have k:=(dq S f.f.toNat f.g).b (nc _ (f.d.headD ⟨0,0,[],⟨#[]⟩⟩));show GJ (if (PS.MX _ _).h then _ else _);split;exact h.d k;exact h.d (k.b (eh _ _));split;show GJ (if (S.My f.f.toNat f.g).g<f.a then (S.My f.f.toNat f.g).MH f.a else S.My f.f.toNat f.g);split;exact(h.d (dq S _ _)).b _;exact h.d (dq S _ _);split;unfold PS.MR;split;exact h;exact GJ.d (S:=(S.Mx f.a).suspect f.b) ((h.b f.a).a (.inl rfl) rfl rfl rfl) (j8 _ _);split
  .unfold PS.Mv;split;exact h;rename_i B b
   split
   .rename_i a
    simp only[Bool.and_eq_true,decide_eq_true_eq]at a;have g:=(h e B b).1 a.1.2;have k:=(dq S f.f.toNat f.g).b (bf _ f.d);apply OY (S:={(S.My f.f.toNat f.g).Mc f.d with d:=some (B.f f.f.toNat (f.g,⟨f.e,f.b,f.i⟩))}) rfl a.1.2;show aV (j9 B.c (aO f.f.toNat)) ((S.My f.f.toNat f.g).Mc f.d).c=true;rw[k.i];exact Ls (c.lead B b).answ d g.2
   exact h
  split;unfold PS.MK;split;exact h;exact GJ.d (S:={S.Mx f.a with a:=⟨f.a,f.b,f.i⟩}) ((h.b f.a).a (.inl rfl) rfl rfl rfl) ((bf _ _).b (j8 _ _));split
  .unfold PS.Mk;split;exact h;rename_i B b
   split
   .rename_i a
    simp only[Bool.and_eq_true,decide_eq_true_eq,Bool.not_eq_true']at a;exact K7 (S:={S with d:=some {B with d:=j9 B.d (aO f.f.toNat)}}) rfl a.1.2 (Ls (c.lead B b).acc d ((h e B b).2 a.1.2).2)
   exact h
  split;exact NM _ _ _;exact h
 exact h
def GJ.c(h:GJ S)(a:Wf S)(s:Ϭ):GJ (S.Mn s):=by
 unfold PS.Mn;split
 .rename_i e
  simp only[Bool.and_eq_true,decide_eq_true_eq,Codec.bM]at e;exact h.e a (Bo e.1.1).2 (LB e.1.2.1 e.2)
 exact h
def GJ.g(h:GJ S)(b:Wf S):GJ S.tick:=by
 rw[oB];split
 .refine GJ.d ?_ (gW _ _).a;unfold PS.Me;split
  .rename_i c
   simp only[Bool.and_eq_true]at c;rw[u2 b c.1.1];obtain⟨k,e⟩:=bA _ _;refine GJ.d (λ_ C a=>?_) e.a;injection a with a;subst a;have d:S.p.c=aO S.c:=pB _;refine⟨λ_=>⟨?_,?_⟩,λk=>by cases k⟩;rw[d];exact b.b7 c.1.1;rw[d];show aV _ S.c=true;grind[u5]
  split;unfold PS.Mr;split;exact(bA S _).elim λ_ k=>h.d k.a;exact(bo S _).elim λ_ k=>h.d k.a;exact h
 exact h
def dY.gj{n win lim:Nat}{G:Grp}{cr:Book}(h:dY n win lim G cr):∀i,i<n->GJ (G.b i):=
 h.PT (λi _ B z=>by cases z) (λ_ h=>h.a (.inl rfl) rfl rfl rfl) (λS _ t _ h=>by
  unfold PS.cast;split;exact(h.d (T:=S.MV (S.Ma t)) rfl).d (bK _ 1 (λT q=>ak T _) _ _).a
  .exact h) (λ_ l w h=>h.c w l) (λ_ w h=>h.g w) (λ_ h=>h.a (.inl rfl) rfl rfl rfl) λS q h=>by
  unfold PS.Mu;split;exact h.a (.inl rfl) rfl rfl rfl;exact h
end
variable {cr:Book}{n i:Nat}{S T U:PS}{f:Frame}{B:Bal}{st:Nat->PS}{N:Frame->Prop}{net:List (Int×ϝ)}{V b:Int}{K:Int->Int->Prop}
def Qa(d:f.h=S.b)(c:aV S.m f.f.toNat=true)(a:kb f):f.a<=(S.MW f).g:=by unfold PS.MW;rw[if_neg ω,if_neg ω,if_pos c];unfold PS.L9;rcases a with k|k|k;rw[if_neg ω,if_pos k];show f.a<=(if (S.My _ _).g<f.a then (S.My _ _).MH _ else S.My _ _).g;split;exact ϭ;omega;rw[if_neg ω,if_neg ω,if_pos k];unfold PS.MR;split;omega;rw[(j8 _ _).l];exact ϭ;rw[if_neg ω,if_neg ω,if_neg ω,if_neg ω,if_pos k];unfold PS.MK;split;omega;rw[(j8 _ _).l,(bf _ _).l];exact ϭ
def LC(h:S.g<=b)(d:0<=b)(m:Int)(cut:Υ):(S.install m cut).g<=b:=by unfold PS.install;split;exact d;show (S.Mb cut).g<=b;rwa [(eh _ _).l]
def Kf(h:S.g<=b)(d:0<=b)(B:Bal):(S.installIf B).g<=b:=by unfold PS.installIf;split;let⟨k,a⟩:=df S;exact LC (by rwa [a.a.l]) d _ _;exact h
def Ow(h:S.g<=b)(d:0<=b)(B:Bal):(S.MA B).g<=b:=by unfold PS.MA;split;refine Kf ?_ d _;let⟨k,e⟩:=bo {S with d:=some {B with e:=false,d:=aO S.c},a:=B.b} {B with e:=false,d:=aO S.c};rw[e.a.l];exact h;exact h
def Ov(h:S.g<=b)(d:0<=b)(a:kb f->f.h=S.b->aV S.m f.f.toNat=true->f.a<=b):(S.MW f).g<=b:=by
 have l:=(dq S f.f.toNat f.g).l;unfold PS.MW;split;exact h;split;unfold PS.MM;split;exact h;show (PS.MZ _ _).g<=b;rwa [(j8 _ _).l];split
 .have a:=λk=>a k ω ‹_›;unfold PS.L9;split;have k:=(dq S f.f.toNat f.g).b (nc _ (f.d.headD ⟨0,0,[],⟨#[]⟩⟩));show PS.g (if (PS.MX _ _).h then _ else _)<=b;split;rwa [k.l];show (PS.Mb _ _).g<=b;rwa [(k.b (eh _ _)).l];split;have:=a (.inl ‹_›);show PS.g (if (S.My f.f.toNat f.g).g<f.a then (S.My f.f.toNat f.g).MH f.a else S.My f.f.toNat f.g)<=b;split;exact this;rwa [l];split;have:=a (.inr (.inl ‹_›));unfold PS.MR;split;exact h;rw[(j8 _ _).l];exact this;split;unfold PS.Mv;split;exact h;split;exact Ow (S:={(S.My _ _).Mc _ with d:=_}) (by show ((S.My _ _).Mc _).g<=b;rwa [(bf _ _).l,l]) d _;exact h;split;have:=a (.inr (.inr ‹_›));unfold PS.MK;split;exact h;rw[(j8 _ _).l,(bf _ _).l];exact this;split
  .unfold PS.Mk;split;exact h;split
   .rename_i B _ _
    exact Kf (S:={S with d:=some {B with d:=j9 B.d (aO f.f.toNat)}}) h d _
   exact h
  split;exact LC (by rwa [(bf _ _).l]) d _ _;exact h
 exact h
def N4(d:Wf S)(e:S.MC=0):S.tick.g=S.g\/S.M4=true/\S.Nb=true/\S.tick.g=(S.g/8+1)*8+S.c:=by
 rw[oB,if_pos e,(gW _ _).a.l];unfold PS.Me;split
 .rename_i c
  simp only[Bool.and_eq_true]at c;rw[u2 d c.1.1];obtain⟨k,a⟩:=bA _ _;exact .inr ⟨c.1.1,c.1.2,a.a.l⟩
 split;unfold PS.Mr;split;exact .inl ((bA S _).elim λ_ k=>k.a.l);exact .inl ((bo S _).elim λ_ k=>k.a.l);exact .inl rfl
def SF.y(h:SF cr n st N)(a:i<n):∀f∈(st i).e,Ob (st i) f:=λf k=>h.elim λ_ s=>((s.b i a).snt f k).2.2
structure Rb(V M b:Int)(S T:PS):Prop where
 g:wy S T
 p:S.b=V->S.m=M->T.b=V->S.g<=b->T.g<=b
 d:FT S->FT T
def Rb.c{V M b:Int}(S:PS):Rb V M b S S:=⟨.c S,λ_ _ _ k=>k,id⟩
def Rb.a{V M b:Int}(S T U:PS)(x:Rb V M b S T)(y:Rb V M b T U):Rb V M b S U:=⟨x.g.a y.g,λt A c k=>
 have:=x.g.g;have:=y.g.g;y.p ω ((x.g.mem ω).trans A) c (x.p t A ω k),λk=>y.d (x.d k)⟩
def Hb(n i:Nat)(net:List (Int×ϝ))(S:PS)(b:Int):Prop:=∀f,ga net f->f.j=i->kb f->f.h=S.b->aV S.m f.f.toNat=true->na f i n=true->f.a<=b
def Hb.a(hb:Hb n i net U b)(b0:0<=b)(m:i<n):∀S f,SF cr n (tl st i S) (ga net)->ga net f->Codec.dg f=true->f.j=i->Rb U.b U.m b S (S.Mn (Codec.im f)):=λS f h hN H hd=>⟨dm h m H,λt A _ k=>by obtain⟨-,c1,c2⟩:=h.c m;rcases Ae H S with e|⟨-,u,e⟩;rwa [e];rw[e];exact Ov k b0 λk1 k2 k3=>hb f hN hd k1 (k2.trans t) (by rwa [<-A]) (by rwa [<-c1,<-c2]),λk=>k.c _⟩
def SF.h(h:SF cr n st (ga net))(F:∀c∈net,∃f,Codec.dg f=true/\c=zY f)(m:i<n)(hp:(st i).g<=b)(Z:((st i).Nc (Grp.MT net i)).b=(st i).b)(hb:Hb n i net (st i) b):∃d,SF cr n (tl st i d) (ga net)/\wy (st i) d/\(st i).Nc (Grp.MT net i)=d.tick/\d.b=(st i).b/\d.g<=b:=by
 let⟨d,a,g,e⟩:=h.e m F .c .a (hb.a (Int.le_trans ((h.j (i:=i)).c m).1.prom.1 hp) m);have v1:=g.g.g;have v2:=(iE (a.c m).1).g;rw[e]at Z;have z:d.b=(st i).b:=ω;exact⟨d,a,g.g,e,z,g.p rfl rfl z hp⟩
def SF.w(h:SF cr n st (ga net))(j:∀c∈net,∃f,Codec.dg f=true/\c=zY f)(d:i<n)(v:cr i=false)(p:((st i).Nc (Grp.MT net i)).b=(st i).b):Hb n i net (st i) ((st i).Nc (Grp.MT net i)).g:=by intro f l L G E P Z;obtain⟨H,A,w,x,z,M,e⟩:=h.at d j wy.c (λ_ _ _=>wy.a) (λS f h _ l _=>dm h d l) l L;let⟨q,I,O⟩:=w.c d;have y:=iE (M.c d).1;have F:=dm w d l.1;have Y:=x.g;have W:=F.g;have Q:=z.g;have R:=y.g;rw[e]at p|-;have:=Qa (S:=H) ω (by rwa [x.mem ω]) G;rw[<-og l.1 (w.b d v) ν]at this;have:=z.j ω;have:=y.j ω;omega
variable {X:Gh}{B':Bal}{cut:Υ}
structure LG(b:Int)(B B':Bal):Prop where
 num:B'.g=b
 out:B'.out=B.out
 asked:B'.a=B.a
 acc:B.e=false->B'.e=false/\N6 B.d B'.d
 answ:B'.e=true->B.e=true/\N6 B.c B'.c
theorem LG.a(h:B.g=b):LG b B B:=⟨h,rfl,rfl,λk=>⟨k,λ_ h=>h⟩,λk=>⟨k,λ_ h=>h⟩⟩
def LG.c{C:Bal}(h:LG b B B')(g:LG b B' C):LG b B C:=
 ⟨g.num,g.out.trans h.out,g.asked.trans h.asked,λk=>⟨(g.acc (h.acc k).1).1,λq a=>(g.acc (h.acc k).1).2 q ((h.acc k).2 q a)⟩,λk=>⟨(h.answ (g.answ k).1).1,λq a=>(g.answ k).2 q ((h.answ (g.answ k).1).2 q a)⟩⟩
def qz0(c:(S.installIf B).out=false)(a:(S.installIf B).b=S.b):S.installIf B=S:=by
 unfold PS.installIf at c a|-;split
 .rename_i g
  rw[if_pos g]at c a;let⟨j,e⟩:=df S;unfold PS.install at c a;split at c
  .rename_i d
   rw[if_pos d]at a;have a:(S.MF.Mb _).b+1=S.b:=a;rw[(eh _ _).a,e.a.a]at a;omega
  cases c
 rfl
def qz1(c:(S.install b cut).out=false)(a:(S.install b cut).b=S.b):False:=by
 unfold PS.install at c a;split at c
 .rename_i d
  rw[if_pos d]at a;have a:(S.Mb cut).b+1=S.b:=a;rw[(eh _ _).a]at a;omega
 cases c
def Lt(a:S.d=some B)(c:B.g=b):(S.MH b).d=some B:=by show (if S.MY b then S.d else none)=some B;simp_all[PS.MY]
def OZ(I:Wf S)(Y:FrW S.n f)(r:S.d=some B)(p:B.g=S.g)(F:kb f->f.h=S.b->f.a<=S.g)(g:(S.MW f).b=S.b)(l:(S.MW f).out=false):∃m,(S.MW f).d=some m/\LG S.g B m/\(S.MW f).g=S.g/\(f.h=S.b->aV S.m f.f.toNat=true->(f.c=4->f.a=S.g->aV B.a f.f.toNat=true->m.e=true->aV m.c f.f.toNat=true)/\(f.c=6->f.a=S.g->aV B.a f.f.toNat=true->B.e=false->aV m.d f.f.toNat=true)):=by
 have v:=Nat.lt_of_lt_of_le Y.q I.c;have u:=I.lead B r;have o:∀{T:PS},dh S T->f.c≠4->f.c≠6->∃m,T.d=some m/\LG S.g B m/\T.g=S.g/\(f.h=S.b->aV S.m f.f.toNat=true->(f.c=4->f.a=S.g->aV B.a f.f.toNat=true->m.e=true->aV m.c f.f.toNat=true)/\(f.c=6->f.a=S.g->aV B.a f.f.toNat=true->B.e=false->aV m.d f.f.toNat=true)):=
  λk G A=>⟨B,k.f.trans r,.a p,k.l,λ_ _=>⟨λc=>absurd c G,λc=>absurd c A⟩⟩
 have t:∀{T:PS},dh S T->(f.h=S.b->aV S.m f.f.toNat=true->False)->∃m,T.d=some m/\LG S.g B m/\T.g=S.g/\(f.h=S.b->aV S.m f.f.toNat=true->(f.c=4->f.a=S.g->aV B.a f.f.toNat=true->m.e=true->aV m.c f.f.toNat=true)/\(f.c=6->f.a=S.g->aV B.a f.f.toNat=true->B.e=false->aV m.d f.f.toNat=true)):=
  λk c=>⟨B,k.f.trans r,.a p,k.l,λa d=>(c a d).elim⟩
 unfold PS.MW at g l|-;split;exact t (.e S) λ_ _=>ω;rename_i O
 rw[if_neg O]at g l;split;refine t ?_ λ_ _=>ω;unfold PS.MM;split;exact .e S;exact j8 S _;rename_i W
 rw[if_neg W]at g l;have z:f.h=S.b:=ω;split
 .rename_i C
  rw[if_pos C]at g l;unfold PS.L9 at g l|-;split
  .rename_i c
   have k:=(dq S f.f.toNat f.g).b (nc _ (f.d.headD ⟨0,0,[],⟨#[]⟩⟩));refine o (T:=S.MQ f) ?_ ω ω;show dh S (if (PS.MX _ _).h then _ else _);split;exact k;exact k.b (eh _ _)
  rename_i Q
  rw[if_neg Q]at g l;split
  .rename_i c
   have:=F (.inl c) z;refine o (T:=S.ML f) ?_ ω ω;show dh S (if (S.My f.f.toNat f.g).g<f.a then (S.My f.f.toNat f.g).MH f.a else S.My f.f.toNat f.g);rw[if_neg (by grind[dq])];grind[dq]
  rename_i Z
  rw[if_neg Z]at g l;split
  .rename_i c
   have y:=F (.inr (.inl c)) z;unfold PS.MR;split;exact o (.e S) ω ω;have k:=j8 ((S.Mx f.a).suspect f.b) ⟨4,0,f.f,((S.Mx f.a).suspect f.b).a.m,((S.Mx f.a).suspect f.b).b,f.a,((S.Mx f.a).suspect f.b).a.b,((S.Mx f.a).suspect f.b).Ml,((S.Mx f.a).suspect f.b).a.a,((S.Mx f.a).suspect f.b).Mp⟩;exact⟨B,k.f.trans (Lt r ω),.a p,k.l.trans (show f.a=S.g by omega),λ_ _=>⟨λc=>ω,λc=>ω⟩⟩
  rename_i P
  rw[if_neg P]at g l;split
  .rename_i c
   rw[if_pos c]at g l;unfold PS.Mv at g l|-;rw[r]at g l|-;simp only at g l|-;split
   .rename_i s
    rw[if_pos s]at g l;simp only[Bool.and_eq_true,decide_eq_true_eq]at s;have k:=(dq S f.f.toNat f.g).b (bf _ f.d);generalize hT:(S.My f.f.toNat f.g).Mc f.d=T at*;unfold PS.MA at g l|-;split
    .rename_i R
     rw[if_pos R]at g l;simp only at g l|-;let⟨j,D⟩:=bo {T with d:=some {B.f f.f.toNat (f.g,⟨f.e,f.b,f.i⟩)with e:=false,d:=aO T.c},a:=(B.f f.f.toNat (f.g,⟨f.e,f.b,f.i⟩)).b} {B.f f.f.toNat (f.g,⟨f.e,f.b,f.i⟩)with e:=false,d:=aO T.c};have E:=qz0 l (by rw[D.a.a];exact g.trans k.a.symm);refine⟨{B.f f.f.toNat (f.g,⟨f.e,f.b,f.i⟩)with e:=false,d:=aO T.c},?_,⟨p,rfl,rfl,λx=>ν,λx=>by cases x⟩,?_,λ_ _=>⟨(λ_ _ _ x=>by cases x),λx=>ω⟩⟩;exact(congrArg PS.d E).trans D.a.f;exact(congrArg PS.g E).trans (D.a.l.trans k.l)
    refine⟨B.f f.f.toNat (f.g,⟨f.e,f.b,f.i⟩),rfl,⟨p,rfl,rfl,λx=>ν,λ_=>⟨s.1.2,λq w=>Ls u.answ v w⟩⟩,k.l,λ_ _=>⟨λ_ _ _ _=>?_,λx=>ω⟩⟩;show aV (j9 B.c (aO f.f.toNat)) f.f.toNat=true;rw[tj u.answ (.c v),u5];simp
   rename_i s
   refine⟨B,r,.a p,rfl,λ_ _=>⟨λ_ H K L=>?_,λx=>ω⟩⟩;refine Classical.byContradiction λx=>s ?_;grind[lX,lh.asked,lh.answ]
  rename_i G
  rw[if_neg G]at g l;split
  .rename_i c
   have y:=F (.inr (.inr c)) z;unfold PS.MK;split;exact o (.e S) ω ω;have k:=(bf {S.Mx f.a with a:=⟨f.a,f.b,f.i⟩} f.d).b (j8 _ ⟨6,0,f.f,0,S.b,f.a,0,[],[],[]⟩);exact⟨B,k.f.trans (Lt r ω),.a p,k.l.trans (show f.a=S.g by omega),λ_ _=>⟨λc=>ω,λc=>ω⟩⟩
  rename_i M
  rw[if_neg M]at g l;split
  .rename_i c
   rw[if_pos c]at g l;unfold PS.Mk at g l|-;rw[r]at g l|-;simp only at g l|-;split
   .rename_i s
    rw[if_pos s]at g l;simp only[Bool.and_eq_true,decide_eq_true_eq,Bool.not_eq_true']at s;have E:=qz0 (S:={S with d:=some {B with d:=j9 B.d (aO f.f.toNat)}}) l g;refine⟨{B with d:=j9 B.d (aO f.f.toNat)},ν,⟨p,rfl,rfl,λx=>⟨x,λq w=>Ls u.acc v w⟩,λx=>⟨x,λ_ h=>h⟩⟩,ν,λ_ _=>⟨λx=>ω,λ_ _ _ _=>?_⟩⟩;show aV (j9 B.d (aO f.f.toNat)) f.f.toNat=true;rw[tj u.acc (.c v),u5];simp
   grind[LG.a]
  rename_i A
  rw[if_neg A]at g l;split
  .rename_i c
   rw[if_pos c]at g l;exact(qz1 (S:=S.Mc f.d) l (g.trans (bf S f.d).a.symm)).elim
  exact o (.e S) ω ω
 rename_i C
 exact t (.e S) λ_ x=>C x
