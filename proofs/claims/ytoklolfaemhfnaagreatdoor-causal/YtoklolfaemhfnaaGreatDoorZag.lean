import Derived.Test.YtoklolfaemhfnaaGreatDoorZaf
set_option maxRecDepth 100000
set_option maxHeartbeats 0
set_option linter.defProp false
namespace Go.Proofs.YtoklolfaemhfnaaGreatDoor.Md
section
open Codec (Msg Frame)
variable {S T U:PS}{f:Frame}
structure mI (S T:PS):Prop where
 num:T.c=S.c
 n:T.n=S.n
 win:T.r=S.r
 crashed:T.f=S.f
def mI.b(S:PS):mI S S:=⟨rfl,rfl,rfl,rfl⟩
def mI.a(h:mI S T)(k:mI T U):mI S U:=⟨k.num.trans h.num,k.n.trans h.n,k.win.trans h.win,k.crashed.trans h.crashed⟩
def dh.k(h:dh S T):T.r=S.r:=by rw[h]
def dh.one(h:dh S T):mI S T:=⟨h.i,h.n,h.k,h.d⟩
def Sends.one{k:Nat}(h:Sends S T k):mI S T:=h.a.one
def nH(S:PS)(m:Int)(a:List Int):mI S (S.install m a):=by
 have k:=(eh S a).one;unfold PS.install;split
 ·exact k.a ⟨rfl,rfl,rfl,rfl⟩
 ·exact k.a ⟨rfl,rfl,rfl,rfl⟩
def kI(S:PS)(B:Bal):mI S (S.installIf B):=by
 unfold PS.installIf;split
 ·obtain⟨k,a⟩:=df S;exact a.one.a (nH _ _ _)
 ·exact mI.b S
def pw(S:PS)(B:Bal):mI S (S.MA B):=by
 unfold PS.MA;split
 ·obtain⟨k,a⟩:=bo _ _;exact mI.a (T:={ S with d:=some _,a:=B.b }) ⟨rfl,rfl,rfl,rfl⟩ (a.one.a (kI _ _))
 ·exact mI.b S
def By(S:PS):mI S S.M5:=by
 obtain⟨k,a⟩:=bA _ _;have e:S.M5=(S.l.Mi _).MA _:=rfl;rw[e];exact mI.a (T:=S.l) ⟨rfl,rfl,rfl,rfl⟩ (a.one.a (pw _ _))
def gr(S:PS):mI S S.Me:=by
 unfold PS.Me;split
 ·exact By S
 ·split
  ·unfold PS.Mr;split
   ·exact(bA S _).elim fun _ h=>h.one
   ·exact(bo S _).elim fun _ h=>h.one
  ·exact mI.b S
def bX{P:Prop}[Decidable P](h:mI S T)(k:mI S U):mI S (if P then T else U):=by
 split
 ·exact h
 ·exact k
def xN(S:PS)(f:Frame):mI S (S.MW f):=by
 refine bX (mI.b S) (bX ?_ (bX ?_ (mI.b S)))
 ·exact bX (mI.b S) (ak _ _).one
 ·refine bX ?_ (bX ?_ (bX ?_ (bX ?_ (bX ?_ (bX ?_ (bX ?_ (mI.b S)))))))
  ·have b:∀T:PS,mI S T->mI S (if T.h then T else T.MG):=fun T h=>bX h (h.a (eh T _).one);exact b _ ((dq S _ _).one.a (nc _ _).one)
  ·have b:∀T:PS,mI S T->mI S (if T.g<f.a then T.MH f.a else T):=fun T h=>bX (h.a ⟨rfl,rfl,rfl,rfl⟩) h;exact b _ (dq S _ _).one
  ·exact bX (mI.b S) (mI.a (T:=(S.Mx f.a).suspect f.b) ⟨rfl,rfl,rfl,rfl⟩ (ak _ _).one)
  ·unfold PS.Mv;split
   ·exact mI.b S
   ·refine bX ?_ (mI.b S);have a:=(dq S f.f.toNat f.g).one.a (bf _ f.d).one;refine mI.a ?_ (pw _ _);exact⟨a.num,a.n,a.win,a.crashed⟩
  ·refine bX (mI.b S) (mI.a (T:={ S.Mx f.a with a:=⟨f.a,f.b,f.i⟩ }) ⟨rfl,rfl,rfl,rfl⟩ ((bf _ f.d).one.a (ak _ _).one))
  ·unfold PS.Mk;split
   ·exact mI.b S
   ·refine bX ?_ (mI.b S);refine mI.a ?_ (kI _ _);exact⟨rfl,rfl,rfl,rfl⟩
  ·exact(bf S _).one.a (nH _ _ _)
def gq(S:PS)(s:List UInt8):mI S (S.Mn s):=by
 unfold PS.Mn;exact bX (xN S _) (mI.b S)
def iD{c:Type}{g:PS->c->PS}(b:∀T a,mI T (g T a)):∀(l:List c) (S:PS),mI S (l.foldl g S)
 |[],S=>mI.b S
 |a::l,S=>(b S a).a (iD b l _)
def pt(S:PS):mI S S.tick:=by
 refine bX ((gr S).a (iD (fun T q=>?_) _ _)) (mI.b S);refine bX (ak _ _).one ?_;obtain⟨k,a⟩:=ei _ q;exact(ak _ _).one.a a.one
def vd(S:PS)(l:List (List UInt8)):mI S (S.Nc l):=(iD gq l S).a (pt _)
def lY(S:PS)(t:ByteArray):mI S (S.cast t):=by
 unfold PS.cast;exact bX (mI.a (T:=S.MV (S.Ma t)) ⟨rfl,rfl,rfl,rfl⟩ (iD (fun T q=>(ak T _).one) _ _)) (mI.b S)
def lZ(S:PS)(q:Nat):mI S (S.Mu q):=by
 unfold PS.Mu;exact bX ⟨rfl,rfl,rfl,rfl⟩ (mI.b S)
end
end Go.Proofs.YtoklolfaemhfnaaGreatDoor.Md
section
namespace Go.Proofs.YtoklolfaemhfnaaGreatDoor.Md
open Codec (Msg Frame)
def zY(f:Frame):Int × ByteArray:=(f.j,⟨(Codec.im f).toArray⟩)
def tt(lim:Nat)(pl:List (Int × ByteArray))(c:Int × ByteArray):List (Int × ByteArray):=if pl.length<lim then pl++[c] else pl
def tr(lim:Nat)(pl cs:List (Int × ByteArray)):List (Int × ByteArray):=cs.foldl (tt lim) pl
structure Grp where
 n:Nat
 d:Nat
 c:Nat
 b:Nat->PS
 a:List (Int × ByteArray)
namespace Grp
def Nk(G:Grp)(i:Nat)(S:PS):Grp:={ G with b:=fun j=>if j=i then S else G.b j }
def MB(G:Grp)(i:Nat):Grp:={ G.Nk i { G.b i with e:=[] } with a:=tr G.c G.a ((G.b i).e.map zY) }
def drop(G:Grp)(k:Nat):Grp:={ G with a:=G.a.eraseIdx k }
def Np(G:Grp)(q:Nat)(s:ByteArray):Grp:=(G.Nk q ((G.b q).Mn s.data.toList)).MB q
def deliver(G:Grp)(k:Nat):Grp:=match G.a[k]? with
 |none=>G
 |some c=>(G.drop k).Np c.1.toNat c.2
def copy(G:Grp)(k:Nat):Grp:=match G.a[k]? with
 |none=>G
 |some c=>{ G with a:=tt G.c G.a c }
def cast(G:Grp)(q:Nat)(t:ByteArray):Grp:=(G.Nk q ((G.b q).cast t)).MB q
def tick(G:Grp)(q:Nat):Grp:=(G.Nk q (G.b q).tick).MB q
def suspect(G:Grp)(q r:Nat):Grp:=G.Nk q ((G.b q).Mu r)
def crash(G:Grp)(q:Nat):Grp:=G.Nk q (G.b q).crash
def MT(net:List (Int × ByteArray))(q:Nat):List (List UInt8):=(net.filter fun c=>c.1 == (q:Int)).map fun c=>c.2.data.toList
def MU(G:Grp):Grp:={ G with a:=[],b:=fun q=>(G.b q).Nc (MT G.a q) }
def round(G:Grp):Grp:=(List.range G.n).foldl MB G.MU
def Nm(n win lim:Nat):Grp:=⟨n,win,lim,fun i=>PS.Ni i n win,[]⟩
end Grp
def uY(C:List (Int × Msg))(n:Nat)(c:Int × ByteArray):Prop:=∃f,Codec.dg f=true/\c=zY f/\(∃q:Nat,q<n/\f.j=q)/\Ih C f
def uY.more{C a:List (Int × Msg)}{n:Nat}{c:Int × ByteArray}(h:uY C n c)(j:∀x∈C,x∈a):uY a n c:=by
 obtain⟨f,g,e,b,d⟩:=h;exact⟨f,g,e,b,fun m i=>j _ (d m i)⟩
def uY.a{C:List (Int × Msg)}{n:Nat}{c:Int × ByteArray}(h:uY C n c):Ih C (Codec.bO c.2.data.toList).1:=by
 obtain⟨f,b,rfl, -,a⟩:=h;show Ih C (Codec.bO (Codec.im f)).1;have:=Codec.rB f b;rw[this];exact a
structure PI (G:Grp) (C:List (Int × Msg)) (i:Nat) (S:PS):Prop where
 b:CI C S
 a:Wf S
 num:S.c=i
 n:S.n=G.n
structure CG (C:List (Int × Msg)) (G:Grp):Prop where
 st:∀i,i<G.n->PI G C i (G.b i)/\(G.b i).e=[]
 net:∀c∈G.a,uY C G.n c
variable {C C':List (Int × Msg)}{G:Grp}
def gX{lim:Nat}{P:Int × ByteArray->Prop}:∀(b d:List (Int × ByteArray)),(∀c∈d,P c)->(∀c∈b,P c)->∀c∈tr lim d b,P c
 |[],_,h,_=>h
 | x :: b, d, h, k => by
   refine gX b _ (fun c a=>?_) fun c a=>k c ν;unfold tt at a;split at a
   ·rcases List.mem_append.1 a with a|a
    ·exact h c a
    ·rw[List.mem_singleton] at a;subst a;exact k c ς
   ·exact h c a
structure Lp (C:List (Int × Msg)) (G:Grp) (i:Nat):Prop where
 st:∀j,j<G.n->PI G C j (G.b j)/\(j≠i->(G.b j).e=[])
 net:∀c∈G.a,uY C G.n c
def PI.carried{i:Nat}(h:PI G C i (G.b i)):∀c∈(G.b i).e.map zY,uY C G.n c:=fun c g=>by
 obtain⟨f,e,rfl⟩:=List.mem_map.1 g;obtain⟨d,b,a⟩:=h.b.snt f e;exact⟨f,d,rfl,by rw[<-h.n];exact b,a⟩
def PI.c{i:Nat}{S:PS}(h:PI G C i S):PI G C i { S with e:=[] }:=
 ⟨⟨h.b.ms,h.b.left,nofun,h.b.b⟩,⟨h.a.c,h.a.num,h.a.a,h.a.kn,h.a.ms,h.a.view,h.a.mem,h.a.sus,h.a.h,h.a.prom,h.a.vote,h.a.lead,h.a.left,h.a.t⟩,h.num,h.n⟩
def Lp.a{i:Nat}(h:Lp C G i)(b:i<G.n):CG C (G.MB i):=by
 refine⟨fun j a=>?_,gX _ _ h.net (h.st i b).1.carried⟩;show PI _ C j (if j=i then { G.b i with e:=[] } else G.b j)/\(if j=i then { G.b i with e:=[] } else G.b j).e=[];by_cases e:j=i
 ·subst e;rw[if_pos rfl];have k:=(h.st j a).1.c;exact⟨⟨k.b,k.a,k.num,k.n⟩,rfl⟩
 ·rw[if_neg e];obtain⟨k,c⟩:=h.st j a;exact⟨⟨k.b,k.a,k.num,k.n⟩,c e⟩
def CG.put(h:CG C G){i:Nat}{S:PS}(b:∀x∈C,x∈C')(m:∀x∈C',x∈C\/x.2.a=(i:Int))(o:i<G.n->PI G C' i S):Lp C' (G.Nk i S) i:=by
 refine⟨fun j a=>?_,fun c l=>(h.net c l).more b⟩;show PI _ C' j (if j=i then S else G.b j)/\(j≠i->(if j=i then S else G.b j).e=[]);by_cases e:j=i
 ·subst e;rw[if_pos rfl];have k:=o a;exact⟨⟨k.b,k.a,k.num,k.n⟩,fun h=>(h rfl).elim⟩
 ·rw[if_neg e];obtain⟨k,g⟩:=h.st j a;refine⟨⟨k.b.more b fun x d=>(m x d).imp id fun f=>?_,k.a,k.num,k.n⟩,fun _=>g⟩;rw[f,k.num];omega
def Lp.b{i:Nat}(h:Lp C G i)(b:(G.b i).e=[]):CG C G:=
 ⟨fun j a=>⟨(h.st j a).1,by
  by_cases e:j=i
  ·grind
  ·exact(h.st j a).2 e⟩,h.net⟩
def CG.drop(h:CG C G)(k:Nat):CG C (G.drop k):=
 ⟨fun i a=>by
  obtain⟨k,b⟩:=h.st i a;exact⟨⟨k.b,k.a,k.num,k.n⟩,b⟩,fun c d=>h.net c (List.mem_of_mem_eraseIdx d)⟩
def CG.copy(h:CG C G)(k:Nat):CG C (G.copy k):=by
 unfold Grp.copy;split
 ·exact h
 ·rename_i c f
  refine⟨fun i d=>?_,fun x b=>?_⟩
  ·obtain⟨k,e⟩:=h.st i d;exact⟨⟨k.b,k.a,k.num,k.n⟩,e⟩
  ·have:=gX (lim:=G.c) [c] _ h.net (fun y a=>by rw[List.mem_singleton] at a;subst a;exact h.net y (List.mem_of_getElem? f));exact this x b
def PI.d{i:Nat}{S T:PS}(h:PI G C i S)(b:CI C' T)(a:Wf T)(o:mI S T):PI G C' i T:=⟨b,a,o.num.trans h.num,o.n.trans h.n⟩
def CG.a(h:CG C G){i:Nat}{T:PS}(c:i<G.n->CI C T/\Wf T/\mI (G.b i) T):Lp C (G.Nk i T) i:=
 h.put (fun _ b=>b) (fun _ b=>.inl b) fun a=>(h.st i a).1.d (c a).1 (c a).2.1 (c a).2.2
def CG.e(h:CG C G){q:Nat}(b:q<G.n){s:ByteArray}(c:Codec.bM s.data.toList=true->Ih C (Codec.bO s.data.toList).1):CG C (G.Np q s):=
 (h.a fun a=>⟨(h.st q a).1.b.s (h.st q a).1.a c,(h.st q a).1.a.o _,gq _ _⟩).a b
def uY.b{n:Nat}{c:Int × ByteArray}(h:uY C n c):c.1.toNat<n:=by
 obtain⟨f, -,rfl,⟨q,a,e⟩, -⟩:=h;show f.j.toNat<n;omega
def CG.deliver(h:CG C G)(k:Nat):CG C (G.deliver k):=by
 unfold Grp.deliver;split
 ·exact h
 ·rename_i c b
  have a:=h.net c (List.mem_of_getElem? b);exact(h.drop k).e a.b fun _=>a.a
def Bt{S:PS}{s:List UInt8}(h:Codec.bM s=false):S.Mn s=S:=by
 unfold PS.Mn;grind
def CG.cast(h:CG C G){q:Nat}(b:q<G.n)(t:ByteArray):∃d,CG d (G.cast q t):=by
 have k:=(h.st q b).1;by_cases c:(G.b q).Mf t=0
 ·refine⟨C++[((G.b q).b,(G.b q).Ma t)],?_⟩;refine(h.put (fun x a=>ν) (fun x a=>?_) fun _=>k.d (k.b.cast k.a c) (k.a.cast t) (lY _ _)).a b;rcases List.mem_append.1 a with a|a
  ·grind
  ·rw[List.mem_singleton] at a;subst a;refine .inr ?_;show ((G.b q).c:Int)=q;rw[k.num]
 ·refine⟨C,(h.a fun _=>⟨?_,k.a.cast t,lY _ _⟩).a b⟩;rw[FN c];exact k.b
def CG.tick(h:CG C G){q:Nat}(b:q<G.n):CG C (G.tick q):=
 (h.a fun a=>⟨(h.st q a).1.b.tick (h.st q a).1.a,(h.st q a).1.a.tick,pt _⟩).a b
def CG.suspect(h:CG C G){q r:Nat}(a:q<G.n)(d:r<G.n):CG C (G.suspect q r):=by
 have b:=Nat.lt_of_lt_of_le d (by have:=(h.st q a).1.a.c;rw[(h.st q a).1.n] at this;omega);refine(h.a fun c=>⟨(h.st q c).1.b.u r,(h.st q c).1.a.a8 b,lZ _ _⟩).b ?_;show (if q=q then _ else _:PS).e=[];rw[if_pos rfl];have:=(h.st q a).2;unfold PS.Mu;split
 ·exact this
 omega
def CG.crash(h:CG C G){q:Nat}(b:q<G.n):CG C (G.crash q):=by
 have k:=(h.st q b).1;refine(h.put (fun _ a=>a) (fun _ a=>.inl a) fun _=>⟨k.b.crash,k.a.crash,k.num,k.n⟩).b ?_;show (if q=q then _ else _:PS).e=[];rw[if_pos rfl];exact(h.st q b).2
structure KM (C:List (Int × Msg)) (G:Grp) (k:Nat):Prop where
 st:∀j,j<G.n->PI G C j (G.b j)/\(j<k->(G.b j).e=[])
 net:∀c∈G.a,uY C G.n c
def KM.a{k:Nat}(h:KM C G k)(c:k<G.n):KM C (G.MB k) (k+1):=by
 refine⟨fun j b=>?_,gX _ _ h.net (h.st k c).1.carried⟩;show PI _ C j (if j=k then { G.b k with e:=[] } else G.b j)/\(j<k+1->(if j=k then { G.b k with e:=[] } else G.b j).e=[]);by_cases e:j=k
 ·subst e;rw[if_pos rfl];have k:=(h.st j b).1.c;exact⟨⟨k.b,k.a,k.num,k.n⟩,fun _=>rfl⟩
 ·rw[if_neg e];obtain⟨a,d⟩:=h.st j b;exact⟨⟨a.b,a.a,a.num,a.n⟩,fun h=>d ω⟩
def KM.all:∀(k:Nat),KM C G 0->k<=G.n->KM C ((List.range k).foldl Grp.MB G) k/\((List.range k).foldl Grp.MB G).n=G.n
 |0,h,_=>⟨h,rfl⟩
 | k + 1, h, b => by
   obtain⟨a,e⟩:=KM.all k h ω;rw[List.range_succ,List.foldl_append];exact⟨a.a ω,e⟩
def CG.round(h:CG C G):CG C G.round:=by
 have b:KM C G.MU 0:=by
  refine⟨fun j d=>⟨?_,fun h=>ω⟩,nofun⟩;have k:=(h.st j d).1;have o:=vd (G.b j) (Grp.MT G.a j);refine⟨k.b.y k.a fun s f l=>?_,k.a.b6 _,o.num.trans k.num,o.n.trans k.n⟩;obtain⟨c,g,rfl⟩:=List.mem_map.1 f;exact(h.net c (List.mem_filter.1 g).1).a
 obtain⟨k,e⟩:=KM.all G.n b (Nat.le_refl _);exact⟨fun i a=>⟨(k.st i a).1,(k.st i a).2 (by rw[show G.round.n=G.n from e] at a;exact a)⟩,k.net⟩
def Ii{n win lim:Nat}(b:n<=6):CG [] (Grp.Nm n win lim):=⟨fun _ a=>⟨⟨Ij a,DK b a,rfl,rfl⟩,rfl⟩,nofun⟩
def CG.d(h:CG C G){q:Nat}(l:q<G.n){i:Nat}{e:Ev}(d:(G.b q).j[i]?=some e)(f:msgE e):(e.d=q↔e.b=1)/\∀(j:Nat) x,j<i->(G.b q).j[j]?=some x->msgE x->¬keyE x e:=by
 have k:=(h.st q l).1;have a:=k.b.b;refine⟨by rw[<-k.num];exact a.h e (List.mem_of_getElem? d) f,fun j x m g c=>?_⟩;obtain⟨o,rfl⟩:=List.getElem?_eq_some_iff.1 d;obtain⟨b,rfl⟩:=List.getElem?_eq_some_iff.1 g;exact List.pairwise_iff_getElem.1 a.d j i b o m c f
def CG.b(h:CG C G){q:Nat}(t:q<G.n){i:Nat}{e:Ev}(o:(G.b q).j[i]?=some e)(p:e.b=2) :
 ∃s:Nat,s<G.n/\e.d=s/\∃(k:Nat) (x:Ev),(G.b s).j[k]?=some x/\x.b=1/\x.e=e.e/\keyE x e/\∀(j:Nat) y,j<k->(G.b s).j[j]?=some y->msgE y->y.a=e.a->∃(a:Nat) (z:Ev),a<i/\(G.b q).j[a]?=some z/\msgE z/\keyE z y:=by
 have k:=(h.st q t).1;obtain⟨s,f,d, -⟩:=k.b.b.src e (List.mem_of_getElem? o) (.inr p);rw[k.n] at f;have b:=(h.st s f).1;obtain⟨m,S,N,I,O,R⟩:=k.b.b.g i e o p;obtain⟨-, -,c,v,r⟩:=b.b.b.f _ m S (by rw[N,d,b.num]);refine⟨s,f,d,c,_,v,rfl,O,⟨rfl,by rw[d,b.num],I⟩,fun j y A F g l=>?_⟩;obtain⟨u,M,E,Q,D⟩:=r j y A F g l;obtain⟨a,z,B,L,H,P,w,K⟩:=R u (by rw[k.n,<-b.n];exact M) _ Q D;exact⟨a,z,B,L,H,P.trans l.symm,w.trans E.symm,K⟩
end Go.Proofs.YtoklolfaemhfnaaGreatDoor.Md
end
namespace Go.Proofs.YtoklolfaemhfnaaGreatDoor.Md
section
open Codec (Msg Frame)
variable {S T U:PS}{f:Frame}{k j:Nat}
def cS(S T:PS)(k:Nat):Prop:=T.e.length<=S.e.length+k
def cS.a(S:PS)(k:Nat):cS S S k:=Nat.le_add_right _ _
def cS.c(h:cS S T j)(g:cS T U k):cS S U (j+k):=by unfold cS at *;omega
def cS.b(h:cS S T j)(a:j<=k):cS S T k:=by unfold cS at *;omega
def cS.d(h:T.e=S.e):cS S T k:=by unfold cS;grind
def Sends.h(h:Sends S T k):cS S T k:=h.b
def bt{P:Prop}[Decidable P](h:cS S T k)(g:cS S U k):cS S (if P then T else U) k:=by
 split
 ·exact h
 ·exact g
def tz(a:Int)(n:Nat):(iX a n).length<=n:=Nat.le_trans (List.length_filter_le _ _) ς
def fS{g:PS->Nat->PS}(a:∀T q,Sends T (g T q) 1){set:Int}{n:Nat}(b:n<=6)(S:PS):cS S ((iX set n).foldl g S) 6:=
 (bK g 1 a _ S).h.b (by have:=tz set n;omega)
def u6(S:PS)(m:Msg):(S.MX m).e=S.e:=by unfold PS.MX;grind
def jL(S:PS)(l:List Msg):(S.Mc l).e=S.e:=by
 induction l generalizing S with
 |nil=>rfl
 |cons m l a=>exact(a _).trans (u6 S m)
def lV:∀(k:Nat) (S:PS) (a:List Int),(PS.Mt k S a).e=S.e
 |0,_,_=>rfl
 | k + 1, S, a => by
   unfold PS.Mt;split
   ·rfl
   ·exact(lV k _ a).trans rfl
def jH(S:PS)(a:List Int):(S.Mb a).e=S.e:=lV _ S a
def qt6(S:PS)(m:Int)(a:List Int):(S.install m a).e=S.e:=by
 unfold PS.install;split
 ·exact jH S a
 ·exact jH S a
def jF(a:S.n<=6)(B:Bal):cS S (S.installIf B) 6:=by
 refine bt ?_ (cS.a S _);exact(fS (fun T q=>ak T _) a S).c (k:=0) (cS.d (qt6 _ _ _))
def nF(a:S.n<=6)(B:Bal):cS S (S.MA B) 12:=by
 refine bt ?_ (cS.a S _);have b:cS _ ({ S with d:=some { B with e:=false,d:=aO S.c },a:=B.b }.Mj { B with e:=false,d:=aO S.c }) 6:=fS (fun T q=>ak T _) a _;obtain⟨k,c⟩:=bo _ _;exact b.c (jF (by rw[c.a.n];exact a) _)
def xK(a:S.n<=6):cS S S.M5 18:=by
 have b:cS _ (S.l.Mi S.p) 6:=fS (fun T q=>ak T _) a _;obtain⟨k,c⟩:=bA _ _;exact b.c (nF (by rw[c.a.n];exact a) _)
def ft(a:S.n<=6):cS S S.Me 18:=by
 refine bt (xK a) ?_;split
 ·exact bt ((fS (fun T q=>ak T _) a S).b ω) ((fS (fun T q=>ak T _) a S).b ω)
 ·exact cS.a S _
def uZ(d:S.n<=6):cS S (S.MW f) 12:=by
 refine bt (cS.a S _) (bt ?_ (bt ?_ (cS.a S _)))
 ·exact bt (cS.a S _) ((ak S _).h.b ω)
 ·refine bt ?_ (bt ?_ (bt ?_ (bt ?_ (bt ?_ (bt ?_ (bt ?_ (cS.a S _)))))))
  ·have b:∀T:PS,T.e=S.e->cS S (if T.h then T else T.MG) 12:=fun T h=>bt (.d h) (.d ((jH T _).trans h));exact b _ (u6 _ _)
  ·have b:∀T:PS,T.e=S.e->cS S (if T.g<f.a then T.MH f.a else T) 12:=fun T h=>bt (.d h) (.d h);exact b _ rfl
  ·exact bt (cS.a S _) (cS.b (ak _ _).b ω)
  ·unfold PS.Mv;split
   ·exact cS.a S _
   ·refine bt ?_ (cS.a S _);rename_i B _
    have e:=(dq S f.f.toNat f.g).b (bf _ f.d);have c:((S.My f.f.toNat f.g).Mc f.d).e=S.e:=jL _ _;have a:=nF (S:={ (S.My f.f.toNat f.g).Mc _ with d:=some (B.f f.f.toNat (f.g,⟨f.e,f.b,f.i⟩)) }) (by rw[e.n];exact d) (B.f f.f.toNat (f.g,⟨f.e,f.b,f.i⟩));unfold cS at a ⊢;grind
  ·refine bt (cS.a S _) ?_;have c:({ S.Mx f.a with a:=⟨f.a,f.b,f.i⟩ }.Mc f.d).e=S.e:=jL _ _;have a:=(ak ({ S.Mx f.a with a:=⟨f.a,f.b,f.i⟩ }.Mc f.d) ⟨6,0,f.f,0,S.b,f.a,0,[],[],[]⟩).b;rw[c] at a;exact cS.b a ω
  ·unfold PS.Mk;split
   ·exact cS.a S _
   ·refine bt ?_ (cS.a S _);rename_i B _
    have a:=jF (S:={ S with d:=some { B with d:=j9 B.d (aO f.f.toNat) } }) d { B with d:=j9 B.d (aO f.f.toNat) };exact cS.b a ω
  ·exact .d ((qt6 _ _ _).trans (jL S f.d))
def nE(a:S.n<=6)(s:List UInt8):cS S (S.Mn s) 12:=by
 unfold PS.Mn;exact bt (uZ a) (cS.a S _)
def fH:∀(l:List (List UInt8)) (S:PS),S.n<=6->cS S (l.foldl PS.Mn S) (12 * l.length)
 |[],S,_=>cS.a S _
 | s :: l, S, a => by
   have c:=nE a s;have b:=fH l _ (by rw[(gq S s).n];exact a);exact(c.c b).b ν
def tickF(T:PS)(q:Nat):PS:=if T.h then T.gossip q else (T.gossip q).Mz q
def oB(S:PS):S.tick=if S.MC=0 then S.Me.L8.foldl tickF S.Me else S:=rfl
def vf(T:PS)(q:Nat):Sends T (tickF T q) (1+T.o.length):=by
 have a:Sends T (T.gossip q) 1:=ak T _;have b:Sends _ ((T.gossip q).Mz q) _:=bK _ 1 (fun U m=>by
  split
  ·exact ak U _
  ·exact(Sends.f U).c ω) _ _
 have e:(T.gossip q).Mp.length=T.o.length:=by rw[ll,a.e]
 rw[e,Nat.mul_one] at b;unfold tickF;split
 ·exact a.c ω
 ·exact a.g b
def gW(U:PS):∀(l:List Nat),Sends U (l.foldl tickF U) (l.length * (1+U.o.length))
 |[]=>(Sends.f U).c ω
 | q :: l => by
   have b:=vf U q;have a:=gW (tickF U q) l;have e:(tickF U q).o=U.o:=by rw[b.e]
   rw[e] at a;refine(b.g a).c ?_;rw[List.length_cons,Nat.add_mul];omega
def Bp(a:S.n<=6)(t:ByteArray):cS S (S.cast t) 6:=by
 refine bt ?_ (cS.a S _);have h:=fS (set:=cX (S.MV (S.Ma t)).m (aO (S.MV (S.Ma t)).c)) (g:=fun T q=>T.MN q (S.Ma t)) (fun T q=>ak T _) a (S.MV (S.Ma t));exact h
def Bv(S:PS):S.M1.o.length<=S.o.length:=List.length_filter_le _ _
def nG:∀(k:Nat) (S:PS) (a:List Int),(PS.Mt k S a).o.length<=S.o.length
 |0,_,_=>Nat.le_refl _
 | k + 1, S, a => by
   unfold PS.Mt;split
   ·omega
   ·exact Nat.le_trans (nG k _ a) (Bv _)
def qw9(S:PS)(m:Int)(a:List Int):(S.install m a).o.length<=S.o.length:=by
 unfold PS.install;split
 ·exact Nat.zero_le _
 ·exact nG _ S a
def Sends.i{k:Nat}(h:Sends S T k):T.o=S.o:=by rw[h.e]
def qvr(S:PS)(B:Bal):(S.installIf B).o.length<=S.o.length:=by
 unfold PS.installIf;split
 ·obtain⟨k,a⟩:=df S;exact Nat.le_trans (qw9 _ _ _) (Nat.le_of_eq (congrArg _ a.i))
 omega
def BB(S:PS)(B:Bal):(S.MA B).o.length<=S.o.length:=by
 unfold PS.MA;split
 ·obtain⟨k,a⟩:=bo _ _;exact Nat.le_trans (qvr _ _) (Nat.le_of_eq (congrArg _ a.i))
 omega
def qD(S:PS):S.Me.o.length<=S.o.length:=by
 unfold PS.Me;split
 ·have e:S.M5=(S.l.Mi _).MA _:=rfl;obtain⟨k,a⟩:=bA _ _;exact Nat.le_trans (BB _ _) (Nat.le_of_eq (congrArg _ a.i))
 ·split
  ·unfold PS.Mr;split
   ·exact(bA S _).elim fun _ h=>Nat.le_of_eq (congrArg _ h.i)
   ·exact(bo S _).elim fun _ h=>Nat.le_of_eq (congrArg _ h.i)
  omega
def Bq(a:S.n<=6):cS S S.tick (18+6 * (1+S.o.length)):=by
 rw[oB];split
 ·have d:=ft a;have c:=(gW S.Me S.Me.L8).h;have e:=qD S;have b:S.Me.L8.length<=6:=Nat.le_trans (tz _ _) (by rw[(gr S).n];exact a);refine d.c (c.b ?_);exact Nat.mul_le_mul b ω
 ·exact cS.a S _
structure GW (G:Grp):Prop where
 b:G.n<=6
 a:∀i,i<G.n->Wf (G.b i)
 num:∀i,i<G.n->(G.b i).c=i
 n:∀i,i<G.n->(G.b i).n=G.n
 snt:∀i,i<G.n->(G.b i).e=[]
 lim:G.c<=4000
 net:G.a.length<=G.c
variable {i:Nat}
section
def mZ:ByteArray:=⟨#[102,105,114,115,116]⟩
abbrev Book:=Nat->Bool
def Book.put(cr:Book)(q:Nat):Book:=fun j=>if j=q then true else cr j
inductive dY (fair:Bool) (n win lim:Nat):Grp->Book->Prop
 |start:dY fair n win lim ((Grp.Nm n win lim).cast 0 mZ) fun _=>false
 |deliver {G:Grp}{cr:Book} (k:Nat):dY fair n win lim G cr->dY fair n win lim (G.deliver k) cr
 |drop {G:Grp}{cr:Book} (k:Nat):dY fair n win lim G cr->dY fair n win lim (G.drop k) cr
 |copy {G:Grp}{cr:Book} (k:Nat):dY fair n win lim G cr->dY fair n win lim (G.copy k) cr
 |cast {G:Grp}{cr:Book} (q:Nat) (t:ByteArray):q<n->t.size<=16->dY fair n win lim G cr->dY fair n win lim (G.cast q t) cr
 |tick {G:Grp}{cr:Book} (q:Nat):q<n->dY fair n win lim G cr->dY fair n win lim (G.tick q) cr
 |crash {G:Grp}{cr:Book} (q:Nat):q<n->dY fair n win lim G cr->dY fair n win lim (G.crash q) (cr.put q)
 |suspect {G:Grp}{cr:Book} (q r:Nat):q<n->r<n->(fair=true->cr r=true)->dY fair n win lim G cr->dY fair n win lim (G.suspect q r) cr
 |round {G:Grp}{cr:Book}:dY fair n win lim G cr->dY fair n win lim G.round cr
variable {fair:Bool}{n win lim:Nat}{G:Grp}{cr:Book}
def dQ{a:Nat}:∀(d b:List (Int × ByteArray)),b.length<=a->(tr a b d).length<=a
 |[],_,h=>h
 | c :: d, b, h => by
   refine dQ d _ ?_;unfold tt;grind
def Bu(h:G.a.length<=G.c):(G.MB i).a.length<=(G.MB i).c:=dQ _ _ h
def jG:∀(l:List Nat) (G:Grp),G.a.length<=G.c->(l.foldl Grp.MB G).a.length<=(l.foldl Grp.MB G).c/\(l.foldl Grp.MB G).n=G.n/\(l.foldl Grp.MB G).d=G.d/\(l.foldl Grp.MB G).c=G.c
 |[],_,h=>⟨h,rfl,rfl,rfl⟩
 |i::l,G,h=>jG l (G.MB i) (Bu h)
def dI(G:Grp)(i j:Nat):((G.MB i).b j).f=(G.b j).f:=by
 show (if j=i then { G.b i with e:=[] } else G.b j).f=_;grind
def jk(j:Nat):∀(l:List Nat) (G:Grp),((l.foldl Grp.MB G).b j).f=(G.b j).f
 |[],_=>rfl
 |i::l,G=>(jk j l _).trans (dI G i j)
def eY{S:PS}(h:S.f=(G.b i).f)(j:Nat):((G.Nk i S).b j).f=(G.b j).f:=by
 show (if j=i then S else G.b j).f=_;grind
structure RI (n win lim:Nat) (G:Grp) (cr:Book):Prop where
 a:∃C,CG C G
 n:G.n=n
 win:G.d=win
 lim:G.c=lim
 net:G.a.length<=G.c
 crashed:∀i,(G.b i).f=cr i
def dY.a(h:dY fair n win lim G cr)(m:1<=n/\n<=6):RI n win lim G cr:=by
 induction h with
 | start =>
   obtain⟨C,b⟩:=(Ii m.2).cast (by show 0<n;omega) _;exact⟨⟨C,b⟩,rfl,rfl,rfl,dQ _ _ (Nat.zero_le _),fun i=>(dI _ _ _).trans (eY (lY _ _).crashed i)⟩
 | @deliver G cr k _ a =>
   obtain⟨C,b⟩:=a.a;have l:(G.drop k).a.length<=G.c:=Nat.le_trans (List.length_eraseIdx_le _ _) a.net;refine⟨⟨C,b.deliver k⟩,?_,?_,?_,?_,fun i=>?_⟩ <;> unfold Grp.deliver <;> split
   ·exact a.n
   ·exact a.n
   ·exact a.win
   ·exact a.win
   ·exact a.lim
   ·exact a.lim
   ·exact a.net
   ·exact dQ _ _ l
   ·exact a.crashed i
   ·exact((dI _ _ _).trans (eY (gq _ _).crashed i)).trans (a.crashed i)
 | @drop G cr k _ a =>
   obtain⟨C,b⟩:=a.a;exact⟨⟨C,b.drop k⟩,a.n,a.win,a.lim,Nat.le_trans (List.length_eraseIdx_le _ _) a.net,a.crashed⟩
 | @copy G cr k _ a =>
   obtain⟨C,b⟩:=a.a;refine⟨⟨C,b.copy k⟩,?_,?_,?_,?_,fun i=>?_⟩ <;> unfold Grp.copy <;> split
   ·exact a.n
   ·exact a.n
   ·exact a.win
   ·exact a.win
   ·exact a.lim
   ·exact a.lim
   ·exact a.net
   ·exact dQ [_] _ a.net
   ·exact a.crashed i
   ·exact a.crashed i
 | @cast G cr q t d _ _ a =>
   obtain⟨C,b⟩:=a.a;obtain⟨g,e⟩:=b.cast (by rw[a.n];exact d) t;exact⟨⟨g,e⟩,a.n,a.win,a.lim,dQ _ _ a.net,fun i=>((dI _ _ _).trans (eY (lY _ _).crashed i)).trans (a.crashed i)⟩
 | @tick G cr q d _ a =>
   obtain⟨C,b⟩:=a.a;exact⟨⟨C,b.tick (q:=q) (by rw[a.n];exact d)⟩,a.n,a.win,a.lim,dQ _ _ a.net,fun i=>((dI _ _ _).trans (eY (pt _).crashed i)).trans (a.crashed i)⟩
 | @crash G cr q d _ a =>
   obtain⟨C,b⟩:=a.a;refine⟨⟨C,b.crash (q:=q) (by rw[a.n];exact d)⟩,a.n,a.win,a.lim,a.net,fun i=>?_⟩;show (if i=q then (G.b q).crash else G.b i:PS).f=if i=q then true else cr i
   split
   ·rfl
   ·exact a.crashed i
 | @suspect G cr q r d j _ _ a =>
   obtain⟨C,b⟩:=a.a;exact⟨⟨C,b.suspect (q:=q) (r:=r) (by rw[a.n];exact d) (by rw[a.n];exact j)⟩,a.n,a.win,a.lim,a.net,fun i=>(eY (lZ _ _).crashed i).trans (a.crashed i)⟩
 | @round G cr _ a =>
   obtain⟨C,b⟩:=a.a;obtain⟨s,p,f,o⟩:=jG (List.range G.n) G.MU (Nat.zero_le _);refine⟨⟨C,b.round⟩,p.trans a.n,f.trans a.win,o.trans a.lim,s,fun i=>?_⟩;refine(jk i _ G.MU).trans (Eq.trans ?_ (a.crashed i));exact(vd _ _).crashed
def RI.b(h:RI n win lim G cr)(d:n<=6)(c:lim<=4000):GW G:=by
 obtain⟨C,b⟩:=h.a;exact⟨by rw[h.n];exact d,fun i a=>(b.st i a).1.a,fun i a=>(b.st i a).1.num,fun i a=>(b.st i a).1.n,fun i a=>(b.st i a).2,by rw[h.lim];exact c,h.net⟩
def RI.d(h:RI n win lim G cr){k:Nat}{x:Int × ByteArray}(c:G.a[k]?=some x):∃f,Codec.dg f=true/\x=zY f/\∃j:Nat,j<n/\x.1=(j:Int):=by
 obtain⟨C,d⟩:=h.a;obtain⟨f,b,rfl,⟨q,a,e⟩, -⟩:=d.net x (List.mem_of_getElem? c);exact⟨f,b,rfl,q,by rw[<-h.n];exact a,e⟩
def RI.c(h:RI n win lim G cr)(d:i<n)(t:ByteArray):∀x∈(G.b i).o,eA ((G.b i).Ma t).a ((G.b i).Ma t).seq x=false:=fun x b=>by
 obtain⟨C,e⟩:=h.a;have k:=(e.st i (by rw[h.n];exact d)).1;cases a:eA _ _ x with
 |false=>rfl
 | true =>
   have c:x.a=((G.b i).c)/\x.seq=(G.b i).Ml.getD (G.b i).c 0+1:=by
    unfold eA at a;rw[Bool.and_eq_true,beq_iff_eq,beq_iff_eq] at a;exact a
   have f:=(k.b.b.f _ x (k.b.ms x b) c.1).2.1 rfl;omega
end
variable {G:Grp}
def xL(b:S.n<=6):cS S S.tick (18+6 * (1+S.tick.o.length)):=by
 rw[oB];split
 ·have d:=ft b;have a:=gW S.Me S.Me.L8;have c:S.Me.L8.length<=6:=Nat.le_trans (tz _ _) (by rw[(gr S).n];exact b);rw[a.i];exact d.c (a.h.b (Nat.mul_le_mul c (Nat.le_refl _)))
 ·exact cS.a S _
def Br(a:S.n<=6)(l:List (List UInt8)):cS S (S.Nc l) (12 * l.length+(18+6 * (1+(S.Nc l).o.length))):=by
 have c:=fH l S a;have b:=xL (by rw[(iD gq l S).n];exact a);exact c.c b
def carried(G:Grp)(k:Nat):Grp:=(List.range k).foldl Grp.MB G
def lU(G:Grp)(k:Nat):carried G (k+1)=(carried G k).MB k:=by
 unfold carried;rw[List.range_succ,List.foldl_append];rfl
def lj(G:Grp)(j:Nat):∀k,(carried G k).b j=if j<k then { G.b j with e:=[] } else G.b j
 |0=>rfl
 | k + 1 => by
   rw[lU];show (if j=k then { (carried G k).b k with e:=[] } else (carried G k).b j)=_;by_cases e:j=k
   ·subst e;rw[if_pos rfl,if_pos ω,lj G j j,if_neg ω]
   ·rw[if_neg e,lj G j k];grind
def ti(G:Grp)(h:G.a.length<=G.c)(k:Nat):(carried G k).a.length<=G.c/\(carried G k).n=G.n/\(carried G k).d=G.d/\(carried G k).c=G.c:=by
 obtain⟨d,c,b,a⟩:=jG _ G h;exact⟨by rw[<-a];exact d,c,b,a⟩
def rG(a:List (Int × ByteArray))(q:Nat):(Grp.MT a q).length<=a.length:=by
 unfold Grp.MT;grind
def GW.round(a:GW G){i:Nat}(c:i<G.n):Wf (G.MU.b i)/\(G.MU.b i).e.length<=60000+6 * (1+(G.MU.b i).o.length):=by
 have d:=a.a i c;refine⟨d.b6 _,?_⟩;have b:=Br d.c (Grp.MT G.a i);unfold cS at b;rw[a.snt i c] at b;have h:=rG G.a i;have g:=a.net;have f:=a.lim;have e:G.MU.b i=(G.b i).Nc (Grp.MT G.a i):=rfl;grind
