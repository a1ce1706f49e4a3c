import Derived.Test.YtoklolfaemhfnaaGreatDoorZaf
set_option maxRecDepth 100000
set_option maxHeartbeats 0
set_option linter.defProp false
namespace Go.Proofs.Y.Md
section
open Codec (Msg Frame)
variable {X:Gh}{n i:Nat}{Γ:Wd}{S T:PS}{f:Frame}{v k:Int}{ms:List Msg}{r r':Υ}{st:Nat->PS}{s q:Nat}{m:Msg}{a:Υ}{b:Int}
structure Kp(S T:PS):Prop where
 num:T.c=S.c
 n:T.n=S.n
 evs:T.j=S.j
 view:T.b=S.b
 mem:T.m=S.m
 out:T.out=S.out
def PI2.h(h:PI2 X Γ n i S)(k:Kp S T)(g:Wf T)(j:CI X.C T)(e:S.out=false->PJ X Γ n i S->PJ X Γ n i T):PI2 X Γ n i T:=by refine⟨g,j,k.num.trans h.num,k.n.trans h.c,⟨?_,λu c=>?_,by rw[k.evs,k.view];exact h.e.inst⟩,by rw[k.view];exact h.g,λd=>e (k.out▸d) (h.d (k.out▸d))⟩;rw[k.num,k.evs,k.view,k.mem,k.out];exact h.e.b;rw[k.view]at c;rw[k.evs];exact h.e.a u c
def vF(l:1<=k)(h:∀q,q<n->aV (X.a n v) q=true->∃r,(wd X n st).tr v q r/\k<=r.getD s 0):(wd X n st).gd v s k:=λg q e j=>by let⟨r,a,b⟩:=h q e j;let⟨c,d⟩:=a e s g ω;grind
def PJ.j(p:PJ X (wd X n st) n i S)(g:S.q.length=n)(j:m.a=s)(e:1<=m.seq)(h:S.Nh m=true):(wd X n st).gd S.b s m.seq:=by refine vF e λq d c=>?_;rw[<-p.mem]at c;refine⟨_,p.kn q d c,?_⟩;unfold PS.Nh FP at h;grind
def gj.c(h:gj (wd X n st) n S.b S.o r)(p:PJ X (wd X n st) n i S)(l:S.q.length=n):gj (wd X n st) n S.b S.M1.o r:=λs d k j g=>by
 rcases h s d k j g with ⟨m,a,b,c⟩|h
 .cases e:S.Nh m with
  |true=>exact .inr (c▸p.j l b ω e)
  |false=>exact .inl ⟨m,List.mem_filter.2 ⟨a,by simp[e]⟩,b,c⟩
 grind
def PJ.a1(p:PJ X Γ n i S){kn:List (Υ)}(d:∀r,gj Γ n S.b S.o r->gj Γ n S.b ms r)(c:kn.getD S.c []=S.Ml)(h:∀q,q<n->aV S.m q=true->Γ.tr S.b q (kn.getD q [])):PJ X Γ n i {S with o:=ms,q:=kn}:=by have c:({S with o:=ms,q:=kn}).Ml=S.Ml:=c;refine⟨p.c,p.mem,p.a,p.left,p.vt,λv b U r k=>by rw[c];exact p.an v b U r k,p.pr,⟨p.vote.1,λk=>⟨(p.vote.2 k).1,(p.vote.2 k).2.1,d _ (p.vote.2 k).2.2⟩⟩,λB e=>?_,by rw[c];exact⟨p.row.1,d _ p.row.2⟩,h⟩;have b:=p.lead B e;refine⟨b.num,b.c,b.d,b.g,b.e,λg=>?_,b.vote⟩;let⟨t,o,j,l⟩:=b.gath g;grind
def PJ.d(p:PJ X (wd X n st) n i S)(c:S.q.length=n):PJ X (wd X n st) n i S.M1:=p.a1 (λ_ h=>h.c p c) rfl p.kn
def oC(h:s<a.length):(dB a r).getD s 0=max (a.getD s 0) (r.getD s 0):=by simp[dB,h]
def vb(o:a.length=n)(l:(wd X n st).tr v q a)(j:(wd X n st).tr v q r):(wd X n st).tr v q (dB a r):=λd s g c=>by rw[(oC (r:=r) (ω:s<a.length))]at c⊢;rcases Int.le_total _ _ with h|h;rw[Int.max_eq_right h]at c⊢;exact j d s g c;rw[Int.max_eq_left h]at c⊢;exact l d s g c
def PJ.p(p:PJ X (wd X n st) n i S)(g:Wf S)(l:S.n=n)(y:S.c=i)(u:q<n)(w:q≠i)(h:(wd X n st).tr S.b q r):PJ X (wd X n st) n i (S.My q r):=by
 have o:q<S.q.length:=by rw[g.a,l];exact u
 have c:∀j,j≠q->(S.q.set q (dB (S.q.getD q []) r)).getD j []=S.q.getD j []:=λj d=>ν;have x:=p.a1 (λ_ h=>h) (c _ ω) λj d t=>by
  by_cases e:j=q
  subst e;rw[show (S.q.set j _).getD j []=dB (S.q.getD j []) r by simp[o]];refine vb ?_ (p.kn j d t) h;have:=(g.kn _ (List.getElem_mem o)).1;grind;rw[c j e];exact p.kn j d t
 exact x.d (by simp[g.a,l])
def ng(S:PS)(m:Msg):∀x∈S.o,x∈(S.MX m).o:=λx c=>by unfold PS.MX;grind
def gy(S:PS)(m:Msg):S.MX m={S with o:=(S.MX m).o}:=by unfold PS.MX;split<;>rfl
def PJ.y(p:PJ X Γ n i S)(m:Msg):PJ X Γ n i (S.MX m):=by rw[gy];exact p.a1 (λ_ h=>h.a λx c=>⟨x,ng S m x c,rfl,rfl⟩) rfl p.kn
def fq(S:PS):∀l:List Msg,S.Mc l={S with o:=(S.Mc l).o}:=λl=>by
 unfold PS.Mc;induction l generalizing S with
 |nil=>rfl
 |cons m l c=>rw[List.foldl_cons,c _];simp only;rw[gy S m]
def PJ.o(p:PJ X Γ n i S)(l:List Msg):PJ X Γ n i (S.Mc l):=by
 induction l generalizing S with
 |nil=>exact p
 |cons m l c=>exact c (p.y m)
def mg(S:PS)(l:List Msg):∀x∈S.o,x∈(S.Mc l).o:=by
 unfold PS.Mc;induction l generalizing S with
 |nil=>simp
 |cons m l d=>exact λx c=>d _ x (ng S m x c)
def PJ.a2(p:PJ X (wd X n st) n i S)(d:S.q.length=n)(e:m.a=s)(c:1<=m.seq)(j:aV S.m s=true):(∃x∈(S.MX m).o,x.a=s/\x.seq=m.seq)\/(wd X n st).gd S.b s m.seq:=by
 unfold PS.MX;split
 .rename_i h
  simp only[Bool.or_eq_true]at h;rcases h with (h|h)|h;let⟨x,g,h⟩:=List.any_eq_true.1 h;simp only[eA,Bool.and_eq_true,beq_iff_eq]at h;grind;exact .inr (p.j d e c h);grind
 grind
def PJ.w(p:PJ X (wd X n st) n i S)(w:S.q.length=n):∀{l:List Msg},(∀m∈l,∃s:Nat,m.a=s/\aV S.m s=true/\1<=m.seq)->gj (wd X n st) n S.b l r->gj (wd X n st) n S.b (S.Mc l).o r:=by
 intro l z h s C k u F;rcases h s C k u F with ⟨m,c,a,b⟩|h
 .clear h;unfold PS.Mc;induction l generalizing S with
  |nil=>cases c
  |cons x l o=>
   rw[List.foldl_cons];have A:=z x ς;have d:=nc S x;have g:(S.MX x).q=S.q:=by rw[gy]
   rcases List.mem_cons.1 c with e|c;subst e;obtain⟨t,E,B,G⟩:=A;have:t=s:=ω;subst this;rcases p.a2 w E G B with ⟨y,D,H,j⟩|h;exact .inl ⟨y,mg _ l y D,H,j.trans b⟩;grind;have:=o (p.y x) ν (λm c=>by rw[d.j];grind) c;rw[d.a]at this;omega
 grind
def PJ.g(p:PJ X Γ n i S)(h:S.g<=b):PJ X Γ n i (S.MH b):=by
 refine⟨p.c,p.mem,p.a,p.left,p.vt,λv j U r k=>⟨(p.an v j U r k).1,λe=>?_⟩,λv V k e=>⟨(p.pr v V k e).1,λl=>Int.le_trans ((p.pr v V k e).2 l) h⟩,⟨Int.le_trans p.vote.1 h,p.vote.2⟩,λB d=>?_,p.row,p.kn⟩;let⟨a,c⟩:=(p.an v j U r k).2 e;exact⟨Int.le_trans a h,c⟩;have d:(if S.MY b then S.d else none)=some B:=d;split at d
 .rename_i g
  have k:=p.lead B d;unfold PS.MY at g;rw[d]at g;simp at g;exact⟨g,k.c,k.d,k.g,k.e,k.gath,k.vote⟩
 cases d
def PJ.z(p:PJ X Γ n i S):PJ X Γ n i {S with h:=true}:=
 ⟨p.c,p.mem,p.a,p.left,p.vt,λv b U r k=>⟨(p.an v b U r k).1,λe=>⟨((p.an v b U r k).2 e).1,rfl,((p.an v b U r k).2 e).2.2⟩⟩,p.pr,p.vote,λB c=>by have k:=p.lead B c;exact⟨k.num,k.c,k.d,rfl,k.e,k.gath,k.vote⟩,p.row,p.kn⟩
def PJ.h(p:PJ X Γ n i S)(c:S.g<=b):PJ X Γ n i (S.Mx b):=(p.g c).z
def PJ.t(p:PJ X Γ n i S)(x:Int):PJ X Γ n i (S.suspect x):=⟨p.c,p.mem,p.a,p.left,p.vt,p.an,p.pr,p.vote,λB c=>by have k:=p.lead B c;exact⟨k.num,k.c,k.d,k.g,k.e,k.gath,k.vote⟩,p.row,p.kn⟩
def PJ.a4(p:PJ X Γ n i S)(l:List Frame):PJ X Γ n i {S with e:=l}:=⟨p.c,p.mem,p.a,p.left,p.vt,p.an,p.pr,p.vote,λB c=>by have k:=p.lead B c;exact⟨k.num,k.c,k.d,k.g,k.e,k.gath,k.vote⟩,p.row,p.kn⟩
end
section
open Codec (Msg Frame)
variable {X X':Gh}{n i:Nat}{Γ Γ':Wd}{S T:PS}{f:Frame}{v k:Int}{ms:List Msg}{r r':Υ}{st:Nat->PS}{N:Frame->Prop}{s:Nat}{m:Msg}{t:ByteArray}
def BI.j{B:Bal}(b:BI X Γ n i S B)(e:Wd.a X Γ Γ')(c:0<=S.b)(d:S.b.toNat<=X.D.length):BI X Γ' n i S B:=by refine⟨b.num,b.c,b.d,b.g,b.e,λg=>?_,b.vote⟩;let⟨u,p,h,l⟩:=b.gath g;refine⟨u,p,λa o=>?_,l⟩;let⟨q,y,j,w,z⟩:=h a o;exact⟨q,y,j,w.b e c d,λx=>(z x).b e c d⟩
def PJ.a3(p:PJ X Γ n i S)(a:Wd.a X Γ Γ')(c:0<=S.b):PJ X Γ' n i S:=
 ⟨p.c,p.mem,p.a,λu y b=>⟨(p.left u y b).1,(p.left u y b).2.b a ω (by have:=(List.getElem?_eq_some_iff.1 (p.left u y b).1).1;omega)⟩,p.vt,p.an,p.pr,⟨p.vote.1,λk=>⟨(p.vote.2 k).1,(p.vote.2 k).2.1,(p.vote.2 k).2.2.b a c p.c⟩⟩,λB e=>(p.lead B e).j a c p.c,⟨p.row.1,p.row.2.b a c p.c⟩,λq d g=>a.a _ _ _ (p.kn q d g)⟩
def SI.at(h:SI X n st N)(a:i<n):(st i).c=i/\(st i).n=n:=⟨(h.a i a).num,(h.a i a).c⟩
def EvJ.g(h:EvJ X n S)(o:S.out=false)(D:s<n)(E:aV S.m s=true){kind q x:Int}(z:kind=1\/kind=2)(A:x=s)(l:T.j=S.j++[⟨kind,S.b,x,q,0,t⟩])(B:T.c=S.c)(j:T.b=S.b)(w:T.m=S.m)(C:T.out=S.out):EvJ X n T:=by
 refine⟨?_,λu p=>?_,λy e g=>?_⟩
 .rw[l,B,j,w,C,o];have r:=h.b;rw[o]at r;refine r.a (.inr ⟨?_,rfl,⟨s,D,A,.inr E⟩,rfl,rfl,?_⟩)<;>rcases z with rfl|rfl<;>simp
 rw[j]at p;let⟨m,c,a,b,d⟩:=h.a u p;grind;rw[l]at e;rcases List.mem_append.1 e with e|e;rw[j];exact h.inst y e g;grind
def fl.b{C:List (Int×Msg)}(h:fl C n v r)(w:r.length=n)(y:s<n)(D:(v,m)∈C)(B:m.a=s)(A:m.seq=r.getD s 0+1)(z:ga n m.c (r.set s m.seq)):fl C n v (r.set s m.seq)/\ga n r (r.set s m.seq):=by
 have e:∀t,(r.set s _).getD t 0=if s=t then m.seq else r.getD t 0:=λt=>u4 ω
 have g:ga n r (r.set s m.seq):=λt _=>ν;refine⟨λt j k o u=>?_,g⟩;by_cases p:k<=r.getD t 0;let⟨x,a,b,c,d⟩:=h t j k o p;exact⟨x,a,b,c,λq l=>Int.le_trans (d q l) (g q l)⟩;grind
def gj.d(h:gj Γ n v ms r)(g:r.length=n)(l:s<n)(o:m∈ms)(j:m.a=s)(e:m.seq=r.getD s 0+1):gj Γ n v ms (r.set s m.seq):=λt a k b d=>by
 by_cases c:k<=r.getD t 0
 exact h t a k b c;grind
def iu(S:PS)(m:Msg)(a:Int)(j:Nat)(b:j≠S.c):(S.Ms m a).q.getD j []=S.q.getD j []:=by show (S.q.set _ _).getD j []=_;grind
def PJ.l(p:PJ X (wd X n st) n i (st i))(z:Wf (st i))(L:(st i).n=n)(P:(st i).c=i)(M:i<n)(Q:(st i).out=false)(W:(st i).h=false)(G:s<n)(R:((st i).b,m)∈X.C)(E:m∈ms)(u:∀x∈(st i).o,∃y∈ms,y.a=x.a/\y.seq=x.seq)(w:m.a=s)(H:m.seq=(st i).Ml.getD s 0+1)(O:ga n m.c ((st i).Ml.set s m.seq))(c:Int)(A:T={(st i).Ms m c with o:=ms}):On n (st i) T/\PJ X (wd X n (dL st i T)) n i T:=by
 have l:(st i).Ml.length=n:=by rw[<-L];exact z.g.1
 have d:T.Ml=(st i).Ml.set s m.seq:=by rw[A];exact rE z w c
 let⟨V,Y⟩:=p.row.1.b l G R w H O;have Z:T.b=(st i).b:=by rw[A];rfl
 have F:On n (st i) T:=⟨ω,λv⟨a,b⟩e=>⟨⟨ω,Q⟩,by rw[d];exact Y⟩⟩;have q:=p.a3 (pI (.c i X) F) z.view.1;have g:(wd X n (dL st i T)).tr (st i).b i T.Ml:=λ_ s _ _=>by rw[bc];omega
 refine⟨F,?_⟩;generalize wd X n _=D at q g;rw[d]at g;have o:∀r,gj D n (st i).b (st i).o r->gj D n (st i).b ms r:=λ_ h=>h.a u;subst A;refine⟨q.c,q.mem,q.a,q.left,q.vt,λv b U r k=>⟨(q.an v b U r k).1,λe=>?_⟩,q.pr,⟨q.vote.1,λk=>⟨(q.vote.2 k).1,(q.vote.2 k).2.1,o _ (q.vote.2 k).2.2⟩⟩,λB I=>?_,⟨?_,?_⟩,λj K E=>?_⟩;have:=((q.an v b U r k).2 e).2.1;grind;have:=(q.lead B I).g;rw[W]at this;cases this;rw[d];exact V;rw[d];exact(o _ q.row.2).d l G E w H;by_cases e:j=i
 .subst e;have:({(st j).Ms m c with o:=ms}).q.getD j []=({(st j).Ms m c with o:=ms}).Ml:=by unfold PS.Ml;rw[show ({(st j).Ms m c with o:=ms}:PS).c=j from P]
  rw[this,d];exact g
 have:=iu (st i) m c j ω;show D.tr _ j _;rw[this];exact q.kn j K E
def SI.b0(h:SI X n st N):SI X n (dL st i (st i).M1) N:=
 h.b rfl rfl rfl (λa=>(h.a i a).h ⟨rfl,rfl,rfl,rfl,rfl,rfl⟩ (h.a i a).b.j (h.a i a).a.j λ_ p=>p.d (by rw[(h.a i a).b.a,(h.a i a).c])) λ_ _ b=>.inl b
def tl{b a:Υ}(d:b.length=n)(h:Hk b a s=true){q:Nat}(c:q<n)(e:q≠s):a.getD q 0<=b.getD q 0:=by unfold Hk at h;grind
def SI.a0(h:SI X n st N)(u:i<n)(I:(st i).h=false)(b:(st i).out=false){a:Υ}(y:(st i).Mh a=some m):SI X n (dL st i ((st i).Ms m 2).M1) N:=by
 have P:=h.a i u;obtain⟨g,s,d,e,w,-,G⟩:=dy y;rw[P.c]at d;have l:(st i).Ml.length=n:=by rw[<-P.c];exact P.b.g.1
 have c:=h.c.d _ _ (P.a.ms m g);have A:ga n m.c ((st i).Ml.set s m.seq):=λq z=>by rw[u4 ω];split;grind;exact tl l G z ω
 let⟨E,D⟩:=(P.d b).l P.b P.c P.num u b I d (P.a.ms m g) g (λx o=>⟨x,o,rfl,rfl⟩) e w A 2 rfl;have p:CI X.C ((st i).Ms m 2).M1:=by have:=CI.g 1 (st i) a P.b P.a;unfold PS.Mt at this;rw[y]at this;exact this
 have B:SI X n (dL st i ((st i).Ms m 2)) N:=by refine h.e (.c i X) (λ_ h=>.inl h) E h.c (λ_=>?_) λ_ f H=>.inl H;refine⟨((P.b.k (by rw[P.c];exact d) e w (P.b.ms m g).a 2).1),⟨λx o=>P.a.ms x o,p.left,p.snt,p.b⟩,P.num,P.c,?_,P.g,λ_=>D⟩;refine P.e.g b d ?_ (.inr rfl) e rfl rfl rfl rfl rfl;have:=c.2.2.1;rw[<-((P.d b).mem),e]at this;exact this
 have:=B.b0 (i:=i);rw[bc,eG]at this;exact this
def bp:dL st i (st i)=st:=by unfold dL;grind
def SI.l(c:i<n):∀(k:Nat){b:Nat->PS},SI X n b N->(b i).h=false->(b i).out=false->∀a,SI X n (dL b i (PS.Mt k (b i) a)) N
 |0,b,h,_,_,_=>by unfold PS.Mt;rw[bp];exact h
 |k+1,b,h,d,e,a=>by
   unfold PS.Mt;split;rw[bp];exact h;rename_i m g
   have:=SI.l c k (h.a0 c d e g) (by rw[bc];exact d) (by rw[bc];exact e) a;rw[bc,eG]at this;exact this
def Gh.c(X:Gh)(v:Int)(m:Msg):Gh:={X with C:=X.C++[(v,m)]}
def jM(X:Gh)(v:Int)(m:Msg)(i:Nat):qn i X (X.c v m):=⟨λ_ h=>List.mem_append_left _ h,⟨[],by simp[Gh.c]⟩,λ_ _ h=>h,λ_ _ h=>.inl h,λ_ _ _ _ _ h=>h,λ_ _ _ _ _ h=>.inl h,λ_ _ _ h=>h,λ_ _ _ h=>.inl h⟩
def XI.w(h:XI X n)(z:0<=v/\v.toNat<=X.D.length/\aV (X.a n v) m.a.toNat=true/\1<=m.seq/\m.c.getD m.a.toNat 0=m.seq)(p:m.c.length=n/\fl X.C n v (m.c.set m.a.toNat (m.seq-1)))(B:∀o,(v,o)∈X.C->o.a=m.a->o.seq<m.seq):XI (X.c v m) n:=by
 have j:∀x∈X.C,x∈(X.c v m).C:=λ_ h=>List.mem_append_left _ h;refine⟨h.k,h.j,h.h,λv q b U r k=>?_,h.i,λv V k=>?_,λu x g=>?_,λu x g=>?_,λu x y g l w A=>?_⟩;let⟨a,b,c,d,e⟩:=h.f v q b U r k;exact⟨a,b,c,d,e.a j⟩;let⟨a,b,c,d,e,f⟩:=h.a v V k;exact⟨a,b,c,d,e.a j,f⟩;rcases List.mem_append.1 g with g|g;exact h.d u x g;rw[List.mem_singleton]at g;cases g;exact z;rcases List.mem_append.1 g with g|g;exact⟨(h.e u x g).1,(h.e u x g).2.a j⟩;rw[List.mem_singleton]at g;cases g;exact⟨p.1,p.2.a j⟩;rcases List.mem_append.1 g with g|g<;>rcases List.mem_append.1 l with l|l;exact h.g u x y g l w A;grind;grind
 grind
def tb(l:List Msg)(m:Msg):m∈PS.put l m/\∀x∈l,∃y∈PS.put l m,y.a=x.a/\y.seq=x.seq:=by
 unfold PS.put;split
 .refine⟨ν,λy a=>⟨_,List.mem_map.2 ⟨y,a,rfl⟩,?_⟩⟩;split
  .rename_i e
   simp only[eA,Bool.and_eq_true,beq_iff_eq]at e;omega
  omega
 grind
def SI.a7(h:SI X n st N)(b:T={st i with e:=T.e})(c:∀f∈T.e,f∈(st i).e\/qC X (wd X n st) n f):SI X n (dL st i T) N:=by
 have k:Kp (st i) T:=by rw[b];exact⟨rfl,rfl,rfl,rfl,rfl,rfl⟩
 have d:T.Ml=(st i).Ml:=by rw[b];rfl
 refine h.b k.view k.out d (λe=>?_) λ_=>c;have P:=h.a i e;refine P.h k (Sends.d (k:=T.e.length) ⟨b,ω⟩ P.b) ?_ λ_ p=>by rw[b];exact p.a4 _
 rw[b];refine⟨P.a.ms,P.a.left,λf a=>?_,P.a.b⟩;rcases c f a with a|a;exact P.a.snt f a;exact⟨a.a,by rw[P.c];exact a.dst,a.b⟩
def SI.h(h:SI X n st N){g:Type}{fr:PS->g->Frame}{l:List g}(o:∀T a,a∈l->(∃k,Sends (st i) T k)->Codec.dg {fr T a with f:=(st i).c}=true->qC X (wd X n st) n {fr T a with f:=(st i).c}):SI X n (dL st i (l.foldl (λT a=>T.MZ (fr T a)) (st i))) N:=by
 have:=fT (P:=λT=>(∃k,Sends _ T k)/\∀f∈T.e,f∈(st i).e\/qC X (wd X n st) n f) (g:=λT a=>T.MZ (fr T a)) l _ (λT a p j=>?_) ⟨⟨0,Sends.f _⟩,λ_ h=>.inl h⟩;let⟨⟨k,d⟩,e⟩:=this;exact h.a7 d.e e;let⟨⟨k,d⟩,e⟩:=j;refine⟨⟨_,d.g (ak T _)⟩,λf b=>?_⟩;unfold PS.MZ at b;split at b
 .rename_i c
  rw[d.a.i]at c;rcases List.mem_append.1 b with b|b;grind;rw[List.mem_singleton]at b;subst b;rw[d.a.i];grind
 grind
def nY(a:Nat->PS)(i:Nat):(wd X n a).tr (a i).b i (a i).Ml:=λ_ _ _ _=>⟨Int.le_refl _,λ_=>Int.le_refl _⟩
def PJ.a0(p:PJ X Γ n i S)(v:Int)(m:Msg):PJ (X.c v m) Γ n i S:=
 ⟨p.c,p.mem,p.a,p.left,p.vt,p.an,p.pr,p.vote,λB a=>by have b:=p.lead B a;exact⟨b.num,b.c,b.d,b.g,b.e,b.gath,b.vote⟩,⟨p.row.1.a λ_ h=>List.mem_append_left _ h,p.row.2⟩,p.kn⟩
def SI.b6(h:SI X n st N)(g:i<n)(A:(st i).Mf t=0):SI (X.c (st i).b ((st i).Ma t)) n (dL st i ((st i).MV ((st i).Ma t))) N:=by
 have P:=h.a i g;obtain⟨H,K,G,-⟩:=tq A;have w:=(Bo H).2;have p:=P.d w;have C:(st i).Ml.length=n:=by rw[<-P.c];exact P.b.g.1
 have M:=(P.b.g.at (by rw[P.c];exact g)).1;have d:=P.num;have e:XI (X.c (st i).b ((st i).Ma t)) n:=by
  refine h.c.w ⟨P.b.view.1,p.c,?_,?_,?_⟩ ⟨?_,?_⟩ λI u z=>?_;rw[<-p.mem];show aV _ (((st i).c:Nat):Int).toNat=true;rw[d];exact p.a;show 1<=(st i).Ml.getD _ 0+1;grind;show ((st i).Ml.set _ _).getD (((st i).c:Nat):Int).toNat 0=_;rw[u4 ω,if_pos ω];rfl;show (List.set _ _ _).length=n;grind
  .have:((st i).Ma t).c.set ((st i).Ma t).a.toNat (((st i).Ma t).seq-1)=(st i).Ml:=by show ((st i).Ml.set _ _).set (((st i).c:Nat):Int).toNat ((st i).Ml.getD (st i).c 0+1-1)=_;rw[show (((st i).c:Nat):Int).toNat=(st i).c from rfl,List.set_set,Int.add_sub_cancel];have F:(st i).c<(st i).Ml.length:=ω;rw[show (st i).Ml.getD (st i).c 0=(st i).Ml[(st i).c] by simp[F]];exact ς
   rw[this];exact p.row.1
  have:=(P.a.b.f _ I u z).2.1 rfl;show _<(st i).Ml.getD (st i).c 0+1;omega
 have l:=tb ((st i).Ms ((st i).Ma t) 1).o ((st i).Ma t);obtain⟨E,D⟩:=(p.a0 (st i).b ((st i).Ma t)).l (T:={(st i).Ms ((st i).Ma t) 1 with o:=PS.put ((st i).Ms ((st i).Ma t) 1).o ((st i).Ma t)}) (s:=i) (X:=X.c (st i).b ((st i).Ma t)) P.b P.c d g w K g (List.mem_append_right _ (List.mem_singleton_self _)) l.1 l.2 (by show (((st i).c:Nat):Int)=i;rw[d]) (by show (st i).Ml.getD (st i).c 0+1=_;rw[d]) (λq L=>by show ((st i).Ml.set (st i).c ((st i).Ml.getD (st i).c 0+1)).getD q 0<=((st i).Ml.set i ((st i).Ml.getD (st i).c 0+1)).getD q 0;grind) 1 rfl
 have o:=D.d (by show (List.set _ _ _).length=n;rw[List.length_set,P.b.a,P.c]);refine h.e (jM X _ _ i) (λx e=>?_) E e (λ_=>?_) λ_ f y=>.inl y
 .rcases List.mem_append.1 e with e|e;grind;rw[List.mem_singleton]at e;subst e;exact .inr (by show (((st i).c:Nat):Int)=i;rw[d])
 have B:=fL (X:=X.c (st i).b ((st i).Ma t)) (n:=n) (st:=dL st i {(st i).Ms ((st i).Ma t) 1 with o:=PS.put ((st i).Ms ((st i).Ma t) 1).o ((st i).Ma t)}) (i:=i) (T:=(st i).MV ((st i).Ma t)) (by rw[bc];rfl) (by rw[bc];rfl) (by rw[bc];rfl);rw[eG]at B;rw[B];have j:=P.a.cast P.b A;unfold PS.cast at j;rw[if_pos A,(bK (λ(T:PS)q=>T.MN q ((st i).Ma t)) 1 (λT q=>ak T _) ((st i).MV ((st i).Ma t)).L8 ((st i).MV ((st i).Ma t))).e]at j;refine⟨P.b.b9 G,⟨j.ms,j.left,λf y=>?_,j.b⟩,d,P.c,?_,P.g,λ_=>o⟩;let⟨a,b,c⟩:=P.a.snt f y;exact⟨a,b,λm l=>List.mem_append_left _ (c m l)⟩;exact(P.e.h (jM X _ _ i)).g (T:=(st i).MV ((st i).Ma t)) (x:=(((st i).c:Nat):Int)) w g p.a (.inl rfl) (by rw[d]) rfl rfl rfl rfl rfl
def SI.c1(h:SI X n st N)(c:i<n)(t:ByteArray):∃p,SI p n (dL st i ((st i).cast t)) N:=by
 unfold PS.cast;split
 .rename_i o
  have d:=h.b6 c o;refine⟨X.c (st i).b ((st i).Ma t),?_⟩;have P:=d.a i c;have:=d.h (i:=i) (l:=((st i).MV ((st i).Ma t)).L8) (fr:=λT(q:Nat)=>⟨1,0,q,0,T.b,0,0,T.Ml,[],[(st i).Ma t]⟩) λT q g⟨k,a⟩l=>?_;rw[bc,eG]at this;exact this;rw[bc]at a P;have b:=a.a.a;have j:T.Ml=((st i).MV ((st i).Ma t)).Ml:=by rw[a.e];rfl
  refine⟨l,⟨q,?_,rfl⟩,λm e=>?_,?_,λ_=>?_,nofun,nofun,nofun,nofun⟩;rw[<-P.c];exact(eX.1 g).1;rw[List.mem_singleton]at e;subst e;rw[b];exact List.mem_append_right _ (List.mem_singleton_self _);rw[b];exact⟨P.b.view.1,P.g⟩;rw[b,j,bc];have:=nY (X:=X.c (st i).b ((st i).Ma t)) (n:=n) (dL st i ((st i).MV ((st i).Ma t))) i;rw[bc]at this;rw[show ((((st i).MV ((st i).Ma t)).c):Int).toNat=i from by rw[P.num];rfl];exact this
 exact⟨X,by rw[bp];exact h⟩
end
section
open Codec (Msg Frame)
variable {X X':Gh}{n i:Nat}{Γ Γ':Wd}{S T:PS}{f:Frame}{v k:Int}{ms:List Msg}{r r':Υ}{st:Nat->PS}{N:Frame->Prop}{b:Int}
def SI.on(h:SI X n (dL st i S) N){g:PS->PS}(H:∀a,a i=S->SI X n a N->SI X' n (dL a i (g (a i))) N):SI X' n (dL st i (g S)) N:=by have:=H _ (bc st i S) h;rw[eG,bc]at this;exact this
def kK(S:PS){q:Nat}(a:q≠S.c)(r:Υ):(S.My q r).Ml=S.Ml:=by show (S.q.set q _).getD S.c []=S.q.getD _ [];grind
def SI.c0(h:SI X n st N)(j:i<n){q:Nat}(c:q<n)(a:q≠i)(g:∀x∈r,0<=x/\x<=20)(e:(wd X n st).tr (st i).b q r):SI X n (dL st i ((st i).My q r)) N:=by
 have P:=h.a i j;have d:q≠(st i).c:=by rw[P.num];exact a
 exact h.b rfl rfl (kK _ d r) (λ_=>P.h ⟨rfl,rfl,rfl,rfl,rfl,rfl⟩ (P.b.i (by rw[P.c];exact c) g) (P.a.r d r) λ_ p=>p.p P.b P.c P.num c a e) λ_ _ l=>.inl l
def SI.d(h:SI X n st N)(c:i<n){l:List Msg}(a:∀m∈l,MsgW n m)(d:∀m∈l,((st i).b,m)∈X.C):SI X n (dL st i ((st i).Mc l)) N:=by have P:=h.a i c;have e:=fq (st i) l;refine h.b (by rw[e]) (by rw[e]) (by rw[e];rfl) (λ_=>P.h (by rw[e];exact⟨rfl,rfl,rfl,rfl,rfl,rfl⟩) (P.b.f (by rw[P.c];exact a)) (P.a.c d) λ_ p=>p.o l) λ_ f g=>.inl ν
def SI.a5(h:SI X n st N)(a:i<n)(d:(st i).g<=b)(c:nD b):SI X n (dL st i ((st i).MH b)) N:=
 h.b rfl rfl rfl (λ_=>(h.a i a).h ⟨rfl,rfl,rfl,rfl,rfl,rfl⟩ ((h.a i a).b.a0 c) ⟨(h.a i a).a.ms,(h.a i a).a.left,(h.a i a).a.snt,(h.a i a).a.b⟩ λ_ p=>p.g d) λ_ _ e=>.inl e
def SI.s(h:SI X n st N)(a:i<n){x:Int}(c:bj x):SI X n (dL st i ((st i).suspect x)) N:=
 h.b rfl rfl rfl (λ_=>(h.a i a).h ⟨rfl,rfl,rfl,rfl,rfl,rfl⟩ ((h.a i a).b.suspect c) ⟨(h.a i a).a.ms,(h.a i a).a.left,(h.a i a).a.snt,(h.a i a).a.b⟩ λ_ p=>p.t x) λ_ _ d=>.inl d
structure gV(X:Gh)(n i:Nat)(st:Nat->PS)(f:Frame):Prop where
 a:i<n
 e:(st i).out=false
 h:qC X (wd X n st) n f
 d:FrW n f
 g:f.h=(st i).b
 mem:aV (st i).m f.f.toNat=true
 src:f.f≠i
def gV.q(c:gV X n i st f):f.f.toNat<n/\f.f.toNat≠i/\f.f=(f.f.toNat:Int):=by let⟨q,d,a⟩:=c.d.src;have:=c.src;omega
def gV.c(c:gV X n i st f):∀m∈f.d,((st i).b,m)∈X.C:=λm a=>c.g▸c.h.b m a
def SI.g(h:SI X n st N)(c:gV X n i st f)(a:f.c=1\/f.c=2\/f.c=4):SI X n (dL st i ((st i).My f.f.toNat f.g)) N:=
 h.c0 c.a c.q.1 c.q.2.1 c.d.row (c.g▸c.h.row a)
def SI.u(h:SI X n st N)(c:gV X n i st f)(g:f.c=2):SI X n (dL st i ((st i).ML f)) N:=by
 have a:=h.g c (.inr (.inl g));unfold PS.ML;simp only;split
 .rename_i l
  exact a.on (g:=λS=>S.MH _) λj e d=>d.a5 c.a ν c.d.ballot
 exact a
def SI.a2(h:SI X n st N)(c:gV X n i st f)(j:f.c=1):SI X n (dL st i ((st i).MQ f)) N:=by
 have P:=h.a i c.a;have q:∃m,f.d=[m]:=by have:=c.d.c;unfold cH at this;rw[if_pos j,Bool.and_eq_true,beq_iff_eq,beq_iff_eq]at this;exact List.length_eq_one_iff.1 this.2
 let⟨m,l⟩:=q;have a:=(h.g c (.inl j)).on (g:=λS=>S.Mc [m]) λd e g=>g.d c.a (by rw[<-l];exact c.d.msgs) (λx s=>by rw[e];exact c.c x ν);have o:∀T:PS,SI X n (dL st i T) N->T.out=false->SI X n (dL st i (if T.h then T else T.MG)) N:=λT a u=>by
  split;exact a;rename_i t
  exact a.on λd e g=>SI.l c.a 121 g ν ν _
 unfold PS.MQ;rw[l];exact o _ a (by rw[gy];exact c.e)
def Gh.h(X:Gh)(v:Int)(i:Nat)(b:Int)(U:Vote)(r:Υ):Gh:={X with g:=λv' q b' U' r'=>X.g v' q b' U' r'\/(v'=v/\q=i/\b'=b/\U'=U/\r'=r)}
def sn(X:Gh)(v:Int)(i:Nat)(b:Int)(U:Vote)(r:Υ):qn i X (X.h v i b U r):=⟨λ_ h=>h,⟨[],by simp[Gh.h]⟩,λ_ _ h=>h,λ_ _ h=>.inl h,λ_ _ _ _ _ h=>.inl h,λ_ _ _ _ _ h=>h.imp id λh=>h.2.1,λ_ _ _ h=>h,λ_ _ _ h=>.inl h⟩
def PI2.j(h:PI2 X Γ n i S)(x:XI X n)(w:S.out=false)(F:S.h=true)(E:b=S.g):XI (X.h S.b i b S.a S.Ml) n/\PJ (X.h S.b i b S.a S.Ml) Γ n i S:=by have p:=h.d w;constructor;refine⟨x.k,x.j,λv V k=>?_,λv q c U r k=>?_,x.i,x.a,x.d,x.e,x.g⟩;let⟨Q,u,j,d,m,D⟩:=x.h v V k;exact⟨Q,u,j,d,λq l=>⟨.inl (m q l).1,(m q l).2⟩,D⟩;rcases k with k|⟨rfl,rfl,rfl,rfl,rfl⟩;exact x.f v q c U r k;refine⟨?_,h.b.vote.1,by rw[E];exact p.vote.1,λc k _=>(p.vt _ c k).2 rfl,p.row.1⟩;by_cases e:S.a.b=0;omega;exact .inr ⟨(p.vote.2 e).1,(p.vote.2 e).2.1⟩;refine⟨p.c,p.mem,p.a,p.left,p.vt,λv c U r k=>?_,p.pr,p.vote,λB o=>?_,p.row,p.kn⟩;rcases k with k|⟨rfl,-,rfl,rfl,rfl⟩;exact p.an v c U r k;grind;have k:=p.lead B o;refine⟨k.num,k.c,k.d,k.g,k.e,λg=>?_,k.vote⟩;let⟨C,t,y,z⟩:=k.gath g;refine⟨C,t,λa A=>?_,λq l=>?_⟩;let⟨q,j,d,m⟩:=y a A;exact⟨q,j,.inl d,m⟩;let⟨a,j,d⟩:=z q l;exact⟨a,j,.inl d⟩
def SI.b4(h:SI X n st N)(c:i<n)(g:(st i).out=false)(d:(st i).h=true):SI (X.h (st i).b i (st i).g (st i).a (st i).Ml) n st N:=by have P:=h.a i c;have a:=P.j h.c g d rfl;have:=h.e (sn X _ i _ _ _) (λ_ h=>.inl h) (.a rfl rfl rfl) a.1 (λ_=>⟨P.b,P.a,P.num,P.c,⟨P.e.b,P.e.a,P.e.inst⟩,P.g,λ_=>by rw[bp];exact a.2⟩) λ_ _ e=>.inl e;rw[bp]at this;exact this
def SI.x(h:SI X n st N)(c:gV X n i st f):∃B,SI B n (dL st i ((st i).MR f)) N:=by
 unfold PS.MR;split;exact⟨X,by rw[bp];exact h⟩;have z:SI X n (dL st i ((st i).Mx f.a)) N:=h.b rfl rfl rfl (λ_=>(h.a i c.a).h ⟨rfl,rfl,rfl,rfl,rfl,rfl⟩ ((h.a i c.a).b.s c.d.ballot) ⟨(h.a i c.a).a.ms,(h.a i c.a).a.left,(h.a i c.a).a.snt,(h.a i c.a).a.b⟩ λ_ p=>p.h ω) λ_ _ j=>.inl j;have o:=(z.on (g:=λS=>S.suspect f.b) λw e y=>y.s c.a c.d.members).b4 c.a (by rw[bc];exact c.e) (by rw[bc];rfl);have x:=o.h (i:=i) (l:=[()]) (fr:=λT _=>⟨4,0,f.f,T.a.m,T.b,f.a,T.a.b,T.Ml,T.a.a,T.Mp⟩) λT _ _⟨k,l⟩j=>?_;simp only[bc,eG]at x;grind;have P:=o.a i c.a;have e:=l.e;have A:=P.num;have p:=P.d (by rw[bc];exact c.e);have u:∀m,m∈T.Mp↔m∈(dL st i (((st i).Mx f.a).suspect f.b) i).o:=λm=>by rw[lq,e]
 have d:∀{t r},gj t n (dL st i (((st i).Mx f.a).suspect f.b) i).b (dL st i (((st i).Mx f.a).suspect f.b) i).o r->gj t n (dL st i (((st i).Mx f.a).suspect f.b) i).b T.Mp r:=λh=>h.a λm h=>⟨m,(u m).2 h,rfl,rfl⟩;have a:=l.a.a;have g:T.Ml=(dL st i (((st i).Mx f.a).suspect f.b) i).Ml:=by rw[e];rfl
 have s:=l.a.c;refine⟨j,⟨f.f.toNat,c.q.1,c.q.2.2⟩,λm h=>?_,?_,λ_=>?_,λ_=>⟨?_,?_,λh=>?_⟩,nofun,nofun,nofun⟩;rw[a];exact P.a.ms m ((u m).1 h);rw[a];exact⟨P.b.view.1,P.g⟩;rw[a,g,A];exact nY _ i
 .refine .inr ⟨a,?_,?_,?_,g⟩;grind;rw[bc];rfl;omega
 show gj _ n T.b T.Mp T.Ml;rw[a,g];exact d p.row.2;show gj _ n T.b T.Mp T.a.a;have h:T.a.b≠0:=h;rw[s]at h;rw[a,s];exact d (p.vote.2 h).2.2
variable {B:Bal}{L:Option Bal}
def PJ.x(p:PJ X Γ n i S)(a:∀B,L=some B->BI X Γ n i S B):PJ X Γ n i {S with d:=L}:=
 ⟨p.c,p.mem,p.a,p.left,p.vt,p.an,p.pr,p.vote,λB h=>by have b:=a B h;exact⟨b.num,b.c,b.d,b.g,b.e,b.gath,b.vote⟩,p.row,p.kn⟩
def SI.m(h:SI X n st N)(c:i<n)(a:∀B,L=some B->lh n (st i).a B)(b:(st i).out=false->∀B,L=some B->BI X (wd X n st) n i (st i) B):SI X n (dL st i {st i with d:=L}) N:=by have P:=h.a i c;exact h.b rfl rfl rfl (λ_=>P.h ⟨rfl,rfl,rfl,rfl,rfl,rfl⟩ (P.b.e P.b.vote (by rw[P.c];exact a)) ⟨P.a.ms,P.a.left,P.a.snt,P.a.b⟩ λe p=>p.x (b e)) λ_ _ d=>.inl d
def SI.q(h:SI X n st N)(b:i<n)(B:Bal):SI X n (dL st i ((st i).Mi B)) N:=by have P:=h.a i b;refine h.h λT q a⟨k,d⟩c=>?_;refine⟨c,⟨q,by rw[<-P.c];exact(eX.1 a).1,rfl⟩,nofun,?_,nofun,nofun,nofun,nofun,nofun⟩;rw[d.a.a];exact⟨P.b.view.1,P.g⟩
def SI.a9(h:SI X n st N)(g:i<n)(l:(st i).out=false)(w:(st i).g<2147483640):∃A,SI A n (dL st i (st i).l) N:=by
 have P:=h.a i g;have p:=P.d l;have d:=P.b;have o:=P.num;have y:SI X n (dL st i ((st i).Mx (((st i).g/8+1)*8+(st i).c))) N:=h.b rfl rfl rfl (λ_=>P.h ⟨rfl,rfl,rfl,rfl,rfl,rfl⟩ (d.s (d.p w)) ⟨P.a.ms,P.a.left,P.a.snt,P.a.b⟩ λ_ p=>p.h ω) λ_ _ z=>.inl z;have t:=y.b4 g (by rw[bc];exact l) (by rw[bc];rfl);have u:=t.a i g;have s:=t.m g (L:=some (st i).p) (λB e=>by cases e;rw[bc,<-P.c];exact d.b1 w) λ_ B e=>by cases e;rw[bc]at u⊢;have m:=u.d l;have x:=d.prom.1;have C:=d.num;have D:=d.c;refine⟨rfl,?_,?_,rfl,λq c=>?_,λ_=>⟨λV k e=>?_,λq c=>?_,λa j=>?_,λq c=>?_⟩,nofun⟩;show 0<((st i).g/8+1)*8+((st i).c);omega;show (((st i).g/8+1)*8+((st i).c))%8=i;omega;have c:aV (cX (st i).m (st i).k) q=true:=c;rw[lX d.mem d.sus,Bool.and_eq_true]at c;exact c.1;have e:V.b=((st i).g/8+1)*8+((st i).c:Int):=e;have:=(p.pr _ V k ω).2 rfl;omega;have c:aV (j9 0 (aO (st i).c)) q=true:=c;rw[pB,u5,decide_eq_true_eq]at c;subst c;show aV (cX (st i).m (st i).k) _=true;rw[lX d.mem d.sus,d.h.2,o,p.a];rfl;have j:a∈[]++[((st i).Ml,(st i).a)]:=j;simp at j;subst j;refine⟨i,?_,.inr ⟨rfl,rfl,rfl,rfl,rfl⟩,m.row.2,λk=>(m.vote.2 k).2.2⟩;show aV (j9 0 (aO (st i).c)) i=true;rw[pB,u5,o];simp;have c:aV (j9 0 (aO (st i).c)) q=true:=c;rw[pB,u5,decide_eq_true_eq]at c;refine⟨((st i).Ml,(st i).a),?_,.inr ⟨rfl,ω,rfl,rfl,rfl⟩⟩;show _∈[]++[((st i).Ml,(st i).a)];simp
 simp only[bc,eG]at s;exact⟨_,s⟩
def gU:∀(l:List (Υ×Vote))(v:Vote),v.b<=(l.foldl (λv a=>if v.b<a.2.b then a.2 else v) v).b/\∀a∈l,a.2.b<=(l.foldl (λv a=>if v.b<a.2.b then a.2 else v) v).b
 |[],v=>⟨Int.le_refl _,nofun⟩
 |a::l,v=>by have c:=gU l (if v.b<a.2.b then a.2 else v);grind
def gA{n:Nat}:∀(l:List (Υ×Vote))(c:Υ),c.length=n->(∀s,s<n->c.getD s 0<=(l.foldl (λc a=>dB c a.1) c).getD s 0/\(∀a∈l,a.1.getD s 0<=(l.foldl (λc a=>dB c a.1) c).getD s 0)/\((l.foldl (λc a=>dB c a.1) c).getD s 0=c.getD s 0\/∃a∈l,(l.foldl (λc a=>dB c a.1) c).getD s 0=a.1.getD s 0))
 |[],c,_,s,_=>⟨Int.le_refl _,nofun,.inl rfl⟩
 |a::l,c,d,s,b=>by let⟨j,h,g⟩:=gA l (dB c a.1) (by rw[iW];exact d) s b;have e:=oC (r:=a.1) (ω:s<c.length);grind
def gh(h:B.i≠[])(g:∀a∈B.i,a.1.length=n){s:Nat}(b:s<n):(∀a∈B.i,a.1.getD s 0<=B.j.getD s 0)/\∃a∈B.i,B.j.getD s 0=a.1.getD s 0:=by
 unfold Bal.j;match e:B.i with
 |[]=>grind
 |a::l=>
  obtain⟨-,d,c⟩:=gA (a::l) a.1 ν s b;grind
def BI.h(b:BI X Γ n i S B)(x:XI X n)(w:lh n S.a B)(H:B.e=true):B.b.b=B.g/\(∀a∈B.i,a.2.b<B.g/\0<=a.2.b)/\fl X.C n S.b B.b.a/\gj Γ n S.b S.o B.b.a/\
 ((∀a∈B.i,a.2.b=0/\ga n a.1 B.b.a)/\B.b.m=B.a\/∃a∈B.i,a.2.b≠0/\(∀c∈B.i,c.2.b<=a.2.b)/\B.b.m=a.2.m/\B.b.a=a.2.a):=by
 obtain⟨R,-,l,-⟩:=b.gath H;have y:∀a∈B.i,a.2.b<B.g/\0<=a.2.b:=λa d=>by obtain⟨q,-,j,-⟩:=l a d;obtain⟨h,O,Q,-⟩:=x.f _ _ _ _ _ j;refine⟨?_,O⟩;rcases h with h|h;have:=b.c;omega;grind
 have z:=gU B.i ⟨0,0,[]⟩;unfold Bal.b;by_cases e:B.h.b=0;rw[if_pos e];refine⟨rfl,y,λs g k o A=>?_,λs g k o A=>?_,.inl ⟨λa d=>⟨?_,λs g=>(gh w.f (λa d=>(w.c a d).1) g).1 a d⟩,rfl⟩⟩;let⟨a,d,e⟩:=(gh w.f (λa d=>(w.c a d).1) g).2;obtain⟨q,-,j,-⟩:=l a d;obtain⟨m,I,F,E,D⟩:=(x.f _ _ _ _ _ j).2.2.2.2 s g k o ν;exact⟨m,I,F,E,λt u=>Int.le_trans (D t u) ((gh w.f (λa d=>(w.c a d).1) u).1 a d)⟩;let⟨a,d,e⟩:=(gh w.f (λa d=>(w.c a d).1) g).2;obtain⟨q,-,-,K,-⟩:=l a d;exact K s g k o ν;have P:a.2.b<=B.h.b:=z.2 a d;grind;rw[if_neg e];obtain⟨a,d,p⟩:∃a∈B.i,B.h=a.2:=by have:=xM (B:=B) (λv=>v.b=0\/∃a∈B.i,v=a.2) (.inl rfl) λa d=>ν;grind
 obtain⟨q,-,j,-,M⟩:=l a d;rw[p]at e⊢;refine⟨rfl,y,(x.a _ _ ((x.f _ _ _ _ _ j).1.resolve_left e).2).2.2.2.2.1,M e,.inr ⟨a,d,e,λc G=>?_,rfl,rfl⟩⟩;have:c.2.b<=B.h.b:=z.2 c G;grind
end
section
open Codec (Msg Frame)
variable {X X':Gh}{n i:Nat}{Γ Γ':Wd}{S T:PS}{f:Frame}{v k:Int}{ms:List Msg}{r r':Υ}{st:Nat->PS}{N:Frame->Prop}{B:Bal}{V:Vote}
def Gh.b(X:Gh)(v:Int)(i:Nat)(V:Vote):Gh:={X with e:=λv' V'=>X.e v' V'\/(v'=v/\V'=V),f:=λv' q b=>X.f v' q b\/(v'=v/\q=i/\b=V.b)}
def lg(h:X.e v V\/V.b%8=i):qn i X (X.b v i V):=
 ⟨λ_ h=>h,⟨[],by simp[Gh.b]⟩,λ_ _ h=>.inl h,λ_ _ k=>k.elim .inl λ⟨c,a⟩=>ν,λ_ _ _ _ _ h=>h,λ_ _ _ _ _ h=>.inl h,λ_ _ _ h=>.inl h,λ_ _ _ h=>h.imp id λh=>h.2.1⟩
def XI.l(x:XI X n)(I:∀j,X.e v j->j.b=V.b->j=V)(z:∃(Q:Int)(g:Nat->Vote×Υ),lT Q (X.a n v)/\nI (X.a n v) Q/\(∀q,aV Q q=true->X.g v q V.b (g q).1 (g q).2/\(g q).1.b<V.b)/\((∀q,aV Q q=true->(g q).1.b=0/\ga n (g q).2 V.a)/\V.m=Q\/∃q,aV Q q=true/\(g q).1.b≠0/\(∀p,aV Q p=true->(g p).1.b<=(g q).1.b)/\V.m=(g q).1.m/\V.a=(g q).1.a))(l:lT V.m (X.a n v)/\nI (X.a n v) V.m/\bj V.m/\V.a.length=n/\fl X.C n v V.a/\0<V.b/\0<=v/\v.toNat<=X.D.length)(w:∀b U r,X.g v i b U r->b<=V.b):XI (X.b v i V) n:=by
 refine⟨λu W A k h e=>?_,λu q b k=>?_,λu W k=>?_,λu q b U r k=>?_,λu m c k=>?_,λu W k=>?_,x.d,x.e,x.g⟩
 .rcases k with k|⟨rfl,rfl⟩<;>rcases h with h|⟨H,rfl⟩;exact x.k u W A k h e;grind;grind
  rfl
 rcases k with k|⟨rfl,rfl,rfl⟩;let⟨a,W,b,c⟩:=x.j u q b k;exact⟨a,W,.inl b,c⟩;exact⟨l.2.2.2.2.2.1,V,.inr ⟨rfl,rfl⟩,rfl⟩;rcases k with k|⟨rfl,rfl⟩;exact x.h u W k;exact z
 .let⟨a,o,c,d,e⟩:=x.f u q b U r k;refine⟨a.imp id λa=>⟨.inl a.1,.inl a.2⟩,o,c,λo h t=>?_,e⟩;rcases h with h|⟨rfl,rfl,rfl⟩;grind;have:=w b U r k;omega
 let⟨b,Q,F,y,E,G⟩:=x.i u m c k;exact⟨b,Q,.inl F,y,E,λq s=>.inl (G q s)⟩;rcases k with k|⟨rfl,rfl⟩;exact x.a u W k;exact l
def PJ.s(p:PJ X Γ n i S)(h:S.b=v)(o:V.b=S.g)(g:gj Γ n S.b S.o V.a){L:Option Bal}(j:∀B,L=some B->BI (X.b v i V) Γ n i {S with a:=V} B):PJ (X.b v i V) Γ n i {S with a:=V,d:=L}:=by subst h;have m:=p.vote.1;refine⟨p.c,p.mem,p.a,p.left,λv b k=>?_,p.an,λv W k l=>?_,⟨ν,λ_=>⟨.inr ⟨rfl,rfl,rfl⟩,.inr ⟨rfl,rfl⟩,g⟩⟩,λB d=>?_,p.row,p.kn⟩;rcases k with k|⟨rfl,-,rfl⟩;let⟨a,c⟩:=p.vt v b k;grind;simp;rcases k with k|⟨rfl,e⟩;exact p.pr v W k l;grind;have b:=j B d;exact⟨b.num,b.c,b.d,b.g,b.e,b.gath,b.vote⟩
def SI.a6(h:SI X n st N)(Q:i<n)(K:(st i).out=false)(A:(st i).d=some B)(H:B.e=true)(L:B.c=B.a)(E:(st i).Nj B.c=true):∃Z,SI Z n (dL st i {st i with d:=some {B with e:=false,d:=aO (st i).c},a:=B.b}) N:=by
 have P:=h.a i Q;have p:=P.d K;have b:=p.lead B A;have w:lh n (st i).a B:=by rw[<-P.c];exact P.b.lead B A
 let⟨g1,g2,D,G⟩:=b.gath H;let⟨o,c2,R,M,z⟩:=b.h h.c w H;have l:=b.num;have d:nI (X.a n (st i).b) B.a:=by unfold PS.Nj at E;rw[decide_eq_true_eq]at E;rw[<-p.mem,<-L];exact E
 have g:lT B.a (X.a n (st i).b):=by rw[<-p.mem];exact b.e
 have F:=w.d;obtain⟨m,t⟩:∃m:Nat->Vote×Υ,∀q,aV B.a q=true->((m q).2,(m q).1)∈B.i/\X.g (st i).b q B.g (m q).1 (m q).2:=
  ⟨λq=>if c:aV B.c q=true then ((Classical.choose (G q c)).2,(Classical.choose (G q c)).1) else (⟨0,0,[]⟩,[]),λq c=>by grind⟩
 have x':XI (X.b (st i).b i B.b) n:=by
  refine h.c.l (λV' k e=>ν) ?_ ⟨?_,?_,F.2.2,F.2.1,R,by rw[o];exact b.c,P.b.view.1,p.c⟩ λW U r k=>by rw[o,l];exact((p.an _ W U r k).2 rfl).1
  .rw[o];rcases z with ⟨s,j⟩|⟨a,s,j,d3,y,O⟩;exact⟨B.a,m,g,d,λq c=>⟨(t q c).2,(c2 _ (t q c).1).1⟩,ν⟩;obtain⟨u,e1,x,-⟩:=D a s;refine⟨B.a,λq=>if q=u then (a.2,a.1) else m q,g,d,λq c=>?_,.inr ⟨u,ν,?_,λq c=>?_,?_,?_⟩⟩;grind;grind
   grind
   grind
   simp;exact O
  rcases z with ⟨-,j⟩|⟨a,s,j,-,y,-⟩;rw[j];exact g;obtain⟨u,-,x,-⟩:=D a s;rw[y];exact(h.c.a _ _ ((h.c.f _ _ _ _ _ x).1.resolve_left j).2).1;rcases z with ⟨-,j⟩|⟨a,s,j,-,y,-⟩;rw[j];exact d;obtain⟨u,-,x,-⟩:=D a s;rw[y];exact(h.c.a _ _ ((h.c.f _ _ _ _ _ x).1.resolve_left j).2).2.1
 refine⟨_,h.e (lg (.inr (by rw[o];exact b.d))) (λ_ h=>.inl h) (.a rfl rfl rfl) x' (λ_=>?_) λ_ _ Y=>.inl Y⟩;have C:wd (X.b (st i).b i B.b) n (dL st i {st i with d:=some {B with e:=false,d:=aO (st i).c},a:=B.b})=wd X n st:=fL (X:=X.b (st i).b i B.b) (st:=st) (i:=i) (T:={st i with d:=some {B with e:=false,d:=aO (st i).c},a:=B.b}) rfl rfl rfl;rw[C];refine⟨P.b.a5 (P.b.lead B A),⟨P.a.ms,P.a.left,P.a.snt,P.a.b⟩,P.num,P.c,⟨P.e.b,P.e.a,P.e.inst⟩,P.g,λ_=>p.s rfl (by rw[o,l]) M λB' e=>?_⟩;cases e;refine⟨b.num,b.c,b.d,b.g,b.e,nofun,λ_=>⟨o,λq c=>?_,λq c=>?_⟩⟩<;>(have c:aV (aO (st i).c) q=true:=c;rw[u5,decide_eq_true_eq,P.num]at c;subst c);exact p.a;exact .inr ⟨rfl,rfl,o.symm⟩
def gp(h:gj Γ n v S.o r):gj Γ n v (S.Mm r) r:=λs g k e d=>(h s g k e d).imp (λ⟨m,a,b,c⟩=>⟨m,List.mem_filter.2 ⟨lq.2 a,by unfold aR;grind⟩,b,c⟩) id
def SI.p(h:SI X n st N)(t:i<n)(u:(st i).out=false)(l:(st i).d=some B)(s:B.e=false):SI X n (dL st i ((st i).Mj B)) N:=by have P:=h.a i t;have p:=P.d u;have b:=p.lead B l;obtain⟨g,-⟩:=b.vote s;have e:=p.vote.2 (by have:=b.c;omega);refine h.h λT q j⟨k,d⟩o=>?_;have a:=d.a.a;have c:=d.a.c;refine⟨o,⟨q,by rw[<-P.c];exact(eX.1 j).1,rfl⟩,λm h=>?_,?_,nofun,nofun,λ_=>⟨?_,?_,?_⟩,nofun,nofun⟩;show (T.b,m)∈_;rw[a];exact P.a.ms m (jK h);show 0<=T.b/\T.b.toNat<=_;rw[a];exact⟨P.b.view.1,P.g⟩;show X.e _ _;rw[a,c,<-g];exact e.2.1;show B.g%8=(((st i).c:Nat):Int);rw[P.num];exact b.d;show gj _ n T.b _ T.a.a;rw[a,c];exact gp e.2.2
def lk(S:PS)(V:Vote):∀l,({S with a:=V}:PS).Mc l={S.Mc l with a:=V}:=λl=>by
 unfold PS.Mc;induction l generalizing S with
 |nil=>rfl
 |cons m l a=>
  rw[List.foldl_cons,List.foldl_cons];have:({S with a:=V}).MX m={S.MX m with a:=V}:=by unfold PS.MX;show (if S.o.any _||S.Nh m|| !aV _ _ then _ else _)=_;split<;>rfl
  grind
def SI.t(h:SI X n st N)(c:gV X n i st f)(O:f.c=5):∃W,SI W n (dL st i ((st i).MK f)) N:=by
 unfold PS.MK;split;exact⟨X,by rw[bp];exact h⟩;let⟨a1,a2,I⟩:=c.h.d O;have P:=h.a i c.a;have d:=c.g▸a1;have M:SI X n (dL st i ((st i).Mx f.a)) N:=h.b rfl rfl rfl (λ_=>P.h ⟨rfl,rfl,rfl,rfl,rfl,rfl⟩ (P.b.s c.d.ballot) ⟨P.a.ms,P.a.left,P.a.snt,P.a.b⟩ λ_ p=>p.h ω) λ_ _ u=>.inl u;have j:gj (wd X n st) n (st i).b (((st i).Mx f.a).Mc f.d).o f.i:=by have:=(P.d c.e).h (b:=f.a) ω;refine this.w (by show (st i).q.length=n;rw[P.b.a,P.c]) (λm t=>?_) (c.g▸I);let⟨s,s1,E⟩:=(c.d.msgs m t).s;have k:=h.c.d _ _ (c.c m t);refine⟨s,E,?_,k.2.2.2.1⟩;have:=k.2.2.1;rw[<-(P.d c.e).mem,E]at this;exact this
 rw[(lk ((st i).Mx f.a) ⟨f.a,f.b,f.i⟩ f.d)];have g:=fq ((st i).Mx f.a) f.d;have z:wd X n (dL st i (((st i).Mx f.a).Mc f.d))=wd X n st:=fL (by rw[g];rfl) (by rw[g];rfl) (by rw[g];rfl);have a:=(M.on (g:=λS=>S.Mc f.d) λF e L=>L.d c.a c.d.msgs λm t=>by rw[e];exact c.c m t).a i c.a;rw[bc,z]at a;have l:(((st i).Mx f.a).Mc f.d).b=(st i).b:=by rw[g];rfl
 have D:(((st i).Mx f.a).Mc f.d).g=f.a:=by rw[g];rfl
 have o:(((st i).Mx f.a).Mc f.d).out=false:=by rw[g];exact c.e
 have x:(((st i).Mx f.a).Mc f.d).Ml=(st i).Ml:=by rw[g];rfl
 have H:(((st i).Mx f.a).Mc f.d).e=(st i).e:=by rw[g];rfl
 generalize ((st i).Mx f.a).Mc f.d=S at a l D o x H j;have C:=a.d o;have A:=c.q;have hl:S.d=none:=by
  match e:S.d with
  |none=>rfl
  |some B=>
   have b:=C.lead B e;have:=b.d;have:=b.num;omega
 have Y:XI (X.b (st i).b i ⟨f.a,f.b,f.i⟩) n:=h.c.l (λV' k e=>h.c.k _ _ _ k d e) (h.c.h _ _ d) (h.c.a _ _ d) λb U r k=>by have:=((P.d c.e).an _ b U r k).2 rfl;grind
 have R:SI (X.b (st i).b i ⟨f.a,f.b,f.i⟩) n (dL st i {S with a:=⟨f.a,f.b,f.i⟩}) N:=by refine h.e (lg (.inl d)) (λ_ h=>.inl h) (.a l (o.trans c.e.symm) x) Y (λ_=>?_) λ_ f u=>.inl ν;have w:wd (X.b (st i).b i ⟨f.a,f.b,f.i⟩) n (dL st i {S with a:=⟨f.a,f.b,f.i⟩})=wd X n st:=fL (X:=X.b (st i).b i ⟨f.a,f.b,f.i⟩) (st:=st) (i:=i) (T:={S with a:=⟨f.a,f.b,f.i⟩}) l (o.trans c.e.symm) x;rw[w];rw[show ({S with a:=⟨f.a,f.b,f.i⟩}:PS)={S with a:=⟨f.a,f.b,f.i⟩,d:=none} by grind];exact⟨a.b.e (v:=⟨f.a,f.b,f.i⟩) ⟨c.d.ballot.1,λ_=>by rw[a.c];exact((h.c.a _ _ d).2.2.2.1),c.d.members⟩ nofun,⟨a.a.ms,a.a.left,a.a.snt,a.a.b⟩,a.num,a.c,⟨a.e.b,a.e.a,a.e.inst⟩,a.g,λ_=>(C.s (V:=⟨f.a,f.b,f.i⟩) l D.symm (by rw[l];exact j) (L:=none) nofun)⟩
 have K:=R.h (i:=i) (l:=[()]) (fr:=λ_ _=>⟨6,0,f.f,0,(st i).b,f.a,0,[],[],[]⟩) λT _ _⟨k,hs⟩u=>?_;simp only[bc,eG]at K;grind;refine⟨u,⟨f.f.toNat,A.1,A.2.2⟩,nofun,⟨P.b.view.1,P.g⟩,nofun,nofun,nofun,λ_=>.inr ⟨rfl,?_,rfl⟩,nofun⟩;show ((((dL st i _ i).c:Nat):Int)).toNat=i;rw[bc];show (((S.c:Nat):Int)).toNat=i;rw[a.num];rfl
variable {U:PS}{cut:Υ}
def XI.o(x:XI X n)(p:PJ X Γ n i S):∀(k:Nat)(V:Vote),X.e S.b V->aV V.m i=true->V.b.toNat<=k->ga n S.Ml V.a:=by
 intro k;induction k with
 |zero=>intro V d _ l;have:=(x.a _ V d).2.2.2.2.2.1;omega
 |succ k t=>
  intro V d a l;obtain⟨Q,y,-,-,h,g⟩:=x.h _ V d;rcases g with ⟨g,e⟩|⟨q,o,u,-,w,s⟩;rw[e]at a;rw[((p.an _ _ _ _ (h i a).1).2 rfl).2.2];exact(g i a).2;have c:=h q o;rw[s];exact t _ (((x.f _ _ _ _ _ c.1).1.resolve_left u).2) ν ω
structure Dv(X:Gh)(n:Nat)(cut:Υ)(Γ:Wd)(S U:PS):Prop where
 h:Wf U
 j:CI X.C U
 a:dh S U
 l:ga n S.Ml U.Ml
 e:ga n S.Ml cut->ga n U.Ml cut
 o:EvJ X n S->EvJ X n U
 d:∀r,gj Γ n S.b S.o r->gj Γ n S.b U.o r
 kn:∀q,q≠S.c->U.q.getD q []=S.q.getD q []
 b:∀m∈S.o,U.Ml.getD m.a.toNat 0<m.seq->m∈U.o
def rH(Γ:Wd)(n:Nat)(S:PS):Prop:=∀s:Nat,s<n->∀k:Int,1<=k->(∀q,q<n->q≠S.c->aV S.m q=true->k<=(S.q.getD q []).getD s 0)->Γ.gd S.b s k
def Dv.c(a:Wf S)(b:CI X.C S):Dv X n cut Γ S S:=⟨a,b,.e S,λ_ _=>Int.le_refl _,id,id,λ_ h=>h,λ_ _=>rfl,λ_ h _=>h⟩
def Dv.g{W:PS}(l:S.n=n)(e:Wf S)(h:Dv X n cut Γ S U)(g:Dv X n cut Γ U W):Dv X n cut Γ S W:=
 ⟨g.h,g.j,h.a.b g.a,λs c=>Int.le_trans (h.l s c) (g.l s c),λk=>g.e (h.e k),λk=>g.o (h.o k),λr k=>by
  have:=g.d r (by rw[h.a.a];exact h.d r k);rw[h.a.a]at this;exact this,λq b=>(g.kn q (by rw[h.a.i];exact b)).trans (h.kn q b),λm d a=>g.b m (h.b m d (by let⟨s,j,o⟩:=(e.ms m d).s;have:=g.l s ω;grind)) a⟩
def rH.a(g:rH Γ n S)(h:Dv X n cut Γ S U):rH Γ n U:=λs e k d b=>by rw[h.a.a];refine g s e k d λq c a j=>?_;have:=b q c (by rw[h.a.i];exact a) (by rw[h.a.j];exact j);rw[h.kn q a]at this;omega
def uT(x:XI X n)(b:Wf S)(L:CI X.C S)(p:S.n=n)(R:S.out=false)(hm:S.m=X.a n S.b)(o:aV S.m S.c=true)(g:rH Γ n S){m:Msg}(K:S.Mh cut=some m):Dv X n cut Γ S (S.Ms m 2).M1:=by
 let⟨M,s,I,w,Z,F,a6⟩:=dy K;rw[p]at I;have Q:S.Ml.length=n:=by rw[<-p];exact b.g.1
 have u:(S.Ms m 2).M1.Ml=S.Ml.set s m.seq:=rE b w 2;have e:∀t,(S.Ml.set s m.seq).getD t 0=if s=t then m.seq else S.Ml.getD t 0:=λt=>u4 ω
 refine⟨(b.k ω w Z (b.ms m M).a 2).1.j,?_,rfl,λt _=>?_,λk t z=>?_,λk=>?_,λr k t z j H P=>?_,λq A=>iu S m 2 q A,λy W l=>List.mem_filter.2 ⟨W,?_⟩⟩;have:=CI.g 1 S cut b L;unfold PS.Mt at this;rw[K]at this;exact this;grind
 .rw[u,e];split
  .rename_i h;subst h
   unfold aR at F;rw[decide_eq_true_eq,w]at F;exact F
  exact k t z
 refine k.g R I ?_ (.inr rfl) w rfl rfl rfl rfl rfl;have:=(x.d _ _ (L.ms m M)).2.2.1;rw[<-hm,w]at this;exact this
 .rcases k t z j H P with ⟨y,Y,O,G⟩|k
  .cases a:(S.Ms m 2).Nh y;exact .inl ⟨y,List.mem_filter.2 ⟨Y,by simp[a]⟩,O,G⟩;refine .inr (g t z j H λq A D E=>?_);unfold PS.Nh FP at a;rw[List.all_eq_true]at a;have d:(S.Ms m 2).q.length=n:=by show (List.set _ _ _).length=n;rw[List.length_set,b.a,p]
   have:=a q (List.mem_range.2 (by rw[d];exact A));rw[show (S.Ms m 2).m=S.m from rfl,E,O,iu S m 2 q D]at this;simp at this;rw[G]at this;simpa using this
  exact .inr k
 cases a:(S.Ms m 2).Nh y;rfl;unfold PS.Nh FP at a;rw[List.all_eq_true]at a;have d:(S.Ms m 2).q.length=n:=by show (List.set _ _ _).length=n;rw[List.length_set,b.a,p]
 have:=a S.c (List.mem_range.2 (by rw[d,<-p];exact b.num));rw[show (S.Ms m 2).m=S.m from rfl,o]at this;have l:((S.Ms m 2).q.getD S.c []).getD y.a.toNat 0<y.seq:=l;simp only[Bool.true_and,Bool.not_eq_true',decide_eq_false_iff_not]at this;exact absurd l this
def sW(x:XI X n):∀(k:Nat){S:PS},Wf S->CI X.C S->S.n=n->S.out=false->S.m=X.a n S.b->aV S.m S.c=true->rH Γ n S->Dv X n cut Γ S (PS.Mt k S cut)
 |0,S,b,c,_,_,_,_,_=>.c b c
 |k+1,S,b,c,d,h,j,e,g=>by
   unfold PS.Mt;split;exact .c b c;rename_i m l
   have a:=uT x b c d h j e g l;exact a.g d b (sW x k a.h a.j (a.a.n.trans d) (a.a.out.trans h) (by rw[a.a.j,a.a.a];exact j) (by rw[a.a.j,a.a.i];exact e) (g.a a))
def gz:∀(k:Nat){S:PS},Wf S->fI S.Ml<k->(PS.Mt k S cut).Mh cut=none
 |0,_,_,h=>ω
 |k+1,S,a,h=>by
   rw[PS.Mt];split;omega;rename_i m j
   obtain⟨c,s,d,b,g,-⟩:=dy j;have e:=a.k d b g (a.ms m c).a 2;refine gz k e.1.j ?_;have:fI (S.Ms m 2).M1.Ml=fI (S.Ms m 2).Ml:=rfl;omega
def uS(l:Υ):Nat:=(l.map Int.toNat).sum
def sX:∀{a b:Υ},a.length=b.length->(∀s,s<a.length->a.getD s 0<=b.getD s 0)->uS a<=uS b
 |[],[],_,_=>Nat.le_refl _
 |x::a,y::b,g,h=>by
   have c:=sX (a:=a) (b:=b) ν λs e=>by simpa using h (s+1) ν
   have d:x<=y:=by simpa using h 0 ς
   simp only[uS,List.map_cons,List.sum_cons]at c⊢;omega
def ln:∀{a:Υ}{s:Nat}{x:Int},a[s]?=some x->1<=x->uS (a.set s (x-1))+1=uS a
 |y::a,0,x,h,b=>by simp at h;simp only[uS,List.set_cons_zero,List.map_cons,List.sum_cons];omega
 |y::a,s+1,x,h,b=>by have:=ln (a:=a) (s:=s) ν b;simp only[uS,List.set_cons_succ,List.map_cons,List.sum_cons]at this⊢;omega
def uV(x:XI X n)(l:Wf U)(ci:CI X.C U)(hn:U.n=n)(Y:U.Mh cut=none)(W:fl X.C n U.b cut)(hh:∀s:Nat,s<n->∀k:Int,U.Ml.getD s 0<k->k<=cut.getD s 0->∃m∈U.o,m.a=s/\m.seq=k):∀(N s:Nat),s<n->U.Ml.getD s 0<cut.getD s 0->∀m,(U.b,m)∈X.C->m.a=s->m.seq=U.Ml.getD s 0+1->uS m.c<=N->False:=by
 have a1:U.Ml.length=n:=by rw[<-hn];exact l.g.1
 intro N;induction N with
 |zero=>
  intro s o h m a d I h3;obtain⟨c1,-⟩:=x.e _ m a;have c:=x.d _ m a;have E:=c.2.2.2.2;have:=ln (a:=m.c) (s:=s) (x:=m.seq) ν ω;omega
 |succ N ih=>
  intro s o h m a d I h3;have h0:=(l.g.at (q:=s) ω).1;obtain⟨y,y1,y2,y3⟩:=hh s o (U.Ml.getD s 0+1) ω ω;obtain⟨G,Z,m2,O,L⟩:=W s o (U.Ml.getD s 0+1) ω ω;have em:G=m:=x.g _ _ _ Z a (m2.trans d.symm) (O.trans I.symm);subst em;have b:U.M9 cut s=none:=by exact List.findSome?_eq_none_iff.1 Y s (List.mem_range.2 ω)
  have hf:∃z,U.o.find? (eA s (U.Ml.getD s 0+1))=some z:=by
   cases e:U.o.find? (eA s (U.Ml.getD s 0+1))with
   |some z=>simp
   |none=>
    have:=List.find?_eq_none.1 e y y1;simp[eA,y2,y3]at this
  obtain⟨z,p⟩:=hf;have j:=List.find?_some p;simp only[eA,Bool.and_eq_true,beq_iff_eq]at j;have P:z=G:=x.g _ _ _ (ci.ms z (List.mem_of_find?_eq_some p)) a ω ω;subst P;unfold PS.M9 at b;rw[p]at b;have a0:aR cut z=true:=by unfold aR;rw[decide_eq_true_eq,d];show z.seq<=cut.getD s 0;omega
  have D:Hk U.Ml z.c s=false:=by cases e:Hk U.Ml z.c s;rfl;grind
  obtain⟨q,g,Q⟩:∃q,q<n/\q≠s/\U.Ml.getD q 0<z.c.getD q 0:=by unfold Hk at D;grind
  obtain⟨c1,K⟩:=x.e _ z a;have E:=(x.d _ z a).2.2.2.2;rw[d]at E K;have u:s<z.c.length:=ω;have F:∀t,(z.c.set ((s:Nat):Int).toNat (z.seq-1)).getD t 0=if s=t then z.seq-1 else z.c.getD t 0:=λt=>u4 u
  have a2:=(l.g.at (q:=q) ω).1;obtain⟨w,H,w2,w3,M⟩:=K q g (U.Ml.getD q 0+1) ω ν;have hw:=ln (a:=z.c) (s:=s) (x:=z.seq) (by simp_all) ω;have R:=(x.e _ w H).1;have:=sX (a:=w.c) (b:=z.c.set s (z.seq-1)) (by rw[List.length_set];omega) λt ht=>M t ω;exact ih q g (by have:=L q g;omega) w H w2 w3 ω
def EvJ.d(h:EvJ X n S){e:Ev}(j:¬msgE e)(l:T.j=S.j++[e]){u:Nat}(g:(u:Int)<S.b):∃m c,X.D[u]?=some (m,c)/\(∀s:Nat,s<n->∀k:Int,1<=k->k<=c.getD s 0->∃e∈T.j,msgE e/\e.a=u/\e.d=s/\e.seq=k)/\∀e∈T.j,msgE e->e.a=u->∀s:Nat,e.d=s->e.seq<=c.getD s 0:=by let⟨m,c,a,b,d⟩:=h.a u g;grind
def tA(l:List (Υ))(q s:Nat):((l.map λr=>List.replicate r.length (0:Int)).getD q []).getD s 0=0:=by grind
def SI.install(h:SI X n st N)(hi:i<n)(C:(st i).out=false){m:Int}(hD:X.D[(st i).b.toNat]?=some (m,cut))(hc:gj (wd X n st) n (st i).b (st i).o cut)(hv:(st i).b<2147483648):SI X n (dL st i ((st i).install m cut)) N:=by
 have P:=h.a i hi;have p:=P.d C;have h0:=P.b.view.1;have K:aV (st i).m (st i).c=true:=by rw[P.num];exact p.a
 obtain⟨b,Q,hp,-⟩:=h.c.i _ m cut hD;rw[show (((st i).b.toNat):Int)=(st i).b by omega]at hp;obtain⟨g1,g2,g3,g4,g5,-⟩:=h.c.a _ _ hp;rw[<-p.mem]at g1 g2;have a1:=(List.getElem?_eq_some_iff.1 hD).1;have c:=eh (st i) cut;have hT:((st i).install m cut).b≥(st i).b/\∀v,At ((st i).install m cut) v->v≠(st i).b:=by unfold PS.install;split;refine⟨?_,λv a e=>?_⟩;show (st i).b<=((st i).Mb cut).b+1;rw[c.a];omega;have:((st i).Mb cut).b+1=v:=a.1;rw[c.a]at this;omega;refine⟨?_,λv a e=>?_⟩;show (st i).b<=((st i).Mb cut).b;rw[c.a];omega;have:true=false:=a.2;grind
 have on:On n (st i) ((st i).install m cut):=⟨hT.1,λv a e=>ν⟩;have hl:=pI (.c i X) on;have F:rH (wd X n (dL st i ((st i).install m cut))) n (st i):=λs E k Y x _ q hq g=>by rw[<-p.mem]at g;by_cases e:q=i;subst e;rw[bc];grind;have a:=x q hq (by rw[P.num];exact e) g;have b:=hl.a _ _ _ (p.kn q hq g) hq s E ω;grind
 have o:Dv X n cut (wd X n (dL st i ((st i).install m cut))) (st i) ((st i).Mb cut):=sW h.c 121 P.b P.a P.c C p.mem K F;have G:=o.d cut (hc.b hl h0 p.c);have M:((st i).Mb cut).e=(st i).e:=jH _ _;have I:((st i).Mb cut).Mh cut=none:=gz 121 P.b (by have:=py P.b.g;have:=P.b.c;omega);have l:=P.b.install C hv g3 cut;have w:=P.a.install P.b C m cut;have R:=λg s E=>by refine Int.le_antisymm (o.e (h.c.o p _ _ hp g (Nat.le_refl _)) s E) (Int.not_lt.1 λH=>?_);have a3:=(o.h.g.at (q:=s) (by rw[c.n,P.c];exact E)).1;obtain⟨z,z1,z2,z3,-⟩:=g5 s E (((st i).Mb cut).Ml.getD s 0+1) ω ν;refine uV h.c o.h o.j (c.n.trans P.c) I (by rw[c.a];exact g5) (λt ht k Y x=>?_) _ s E H z (by rw[c.a];exact z1) z2 z3 (Nat.le_refl _);have a2:=(o.h.g.at (q:=t) (by rw[c.n,P.c];exact ht)).1;rcases hc t ht k ω x with ⟨y,y1,y2,y3⟩|hg;exact⟨y,o.b y y1 ν,y2,y3⟩;have:=(hg ht i hi (by rw[<-p.mem];exact p.a)).2 ⟨rfl,C⟩;have:=o.l t ht;omega
 have j:=o.o P.e;have hU:=c.n.trans P.c;have eU:=c.i.trans P.num;have L:((st i).Mb cut).i.length=(st i).b.toNat:=by rw[c.h];exact P.b.left.2 C
 refine h.e (.c i X) (λ_ h=>.inl h) on h.c (λ_=>?_) λ_ f hf=>.inl ?_
 .clear on F hT;have Z:=o.j;clear o;have O:∀v q r,(∀s,r.getD s 0=0)->(wd X n (dL st i ((st i).install m cut))).tr v q r:=λv q r k _ s _ h=>ν;generalize wd X n (dL st i ((st i).install m cut))=a4 at hl G O;unfold PS.install at l w⊢;generalize (st i).Mb cut=U at*;by_cases g:aV m (st i).c=true
  .rw[if_pos g]at l w⊢;rw[P.num]at g;have hr:=R g;have a0:Chn i n 0 (2^n-1) false (U.j++[(⟨3,U.b+1,0,0,m,⟨#[]⟩⟩:Ev)]) (U.b+1) m false:=by have r:=j.b;rw[c.out,C,eU]at r;refine Chn.a (.inl ⟨rfl,rfl,g,?_,?_,g3,rfl,rfl,rfl⟩) r;show nI U.m m;rw[c.j];exact g2;show lT m U.m;rw[c.j];exact g1
   refine⟨l,w,eU,hU,⟨?_,λu L=>?_,λy d hk=>?_⟩,?_,λ_=>⟨?_,?_,g,λu e A=>?_,λv b k=>?_,λv b W r k=>?_,λv W k e=>?_,⟨Int.le_refl _,λk=>absurd rfl k⟩,nofun,⟨λs _ k Y x=>?_,λs _ k Y x=>?_⟩,λq _ _=>O _ _ _ λs=>tA U.q q s⟩⟩;show Chn U.c n 0 (2^n-1) false (U.j++[(⟨3,U.b+1,0,0,m,⟨#[]⟩⟩:Ev)]) (U.b+1) m U.out;rw[eU,c.out,C];exact a0
   .have L:(u:Int)<U.b+1:=L;by_cases e:(u:Int)<U.b;exact j.d (T:=(U.M6 m cut).enter m) (e:=⟨3,U.b+1,0,0,m,⟨#[]⟩⟩) (by simp[msgE]) rfl e;have eu:(u:Int)=(st i).b:=by rw[c.a]at e L;omega
    refine⟨m,cut,by grind,λs E k Y x=>?_,λy d g a5 s E=>?_⟩;let⟨y,y1,y2,y3,y4⟩:=Z.b.c s (by omega) k Y (by grind);exact⟨y,List.mem_append_left _ y1,y2,by omega,y4⟩;have d:y∈U.j++[(⟨3,U.b+1,0,0,m,⟨#[]⟩⟩:Ev)]:=d;rcases List.mem_append.1 d with d|d;obtain⟨t,t1,t2,-,t4⟩:=Z.b.src y d g;grind;grind
   have d:y∈U.j++[(⟨3,U.b+1,0,0,m,⟨#[]⟩⟩:Ev)]:=d;rcases List.mem_append.1 d with d|d;let⟨u,u1,u2,u3⟩:=j.inst y d hk;exact⟨u,u1,by show (u:Int)<U.b+1;omega,u3⟩;rw[List.mem_singleton]at d;subst d;exact⟨(st i).b.toNat,by show U.b+1=_;rw[c.a];omega,by show _<U.b+1;rw[c.a];omega,cut,hD⟩;show (U.b+1).toNat<=_;rw[c.a];omega;show (U.b+1).toNat<=_;rw[c.a];omega;show m=X.a n (U.b+1);unfold Gh.a;rw[c.a,if_neg (by omega),show ((st i).b+1).toNat-1=(st i).b.toNat by omega,hD];rfl
   .have A:(U.i++[(⟨m,cut,U.Mm cut⟩:Lft)])[u]?=some e:=A;by_cases H:u<U.i.length;rw[List.getElem?_append_left H,c.h]at A;exact⟨(p.left u e A).1,(p.left u e A).2.b hl (by omega) (by omega)⟩;rw[List.getElem?_append_right (by omega)]at A;have hz:=(List.getElem?_eq_some_iff.1 A).1;simp at hz;rw[show u-U.i.length=0 by omega]at A;simp at A;subst A;have eu:u=(st i).b.toNat:=by omega
    subst eu;refine⟨hD,?_⟩;rw[show (((st i).b.toNat:Nat):Int)=(st i).b by omega];exact gp G
   obtain⟨a,-⟩:=p.vt v b k;refine⟨?_,λe=>?_⟩;show v<=U.b+1;rw[c.a];omega;have e:v=U.b+1:=e;rw[c.a]at e;omega;obtain⟨a,-⟩:=p.an v b W r k;refine⟨?_,λe=>?_⟩;show v<=U.b+1;rw[c.a];omega;have e:v=U.b+1:=e;rw[c.a]at e;omega;obtain⟨a,-⟩:=p.pr v W k e;refine⟨?_,λe=>?_⟩;show v<=U.b+1;rw[c.a];omega;have e:v=U.b+1:=e;rw[c.a]at e;omega;have x:k<=((U.q.map λr=>List.replicate r.length (0:Int)).getD U.c []).getD s 0:=x;grind;have x:k<=((U.q.map λr=>List.replicate r.length (0:Int)).getD U.c []).getD s 0:=x;grind
  rw[if_neg g]at l w⊢;refine⟨l,w,eU,hU,⟨?_,λu L=>j.d (T:=(U.M6 m cut).Na) (e:=⟨4,U.b,0,0,0,⟨#[]⟩⟩) (by simp[msgE]) rfl L,λy d hk=>?_⟩,?_,nofun⟩;show Chn U.c n 0 (2^n-1) false (U.j++[(⟨4,U.b,0,0,0,⟨#[]⟩⟩:Ev)]) U.b U.m true;have r:=j.b;rw[c.out,C]at r;exact Chn.a (.inr ⟨by simp,rfl,⟨0,by omega,rfl,.inl rfl⟩,rfl,rfl,rfl⟩) r;have d:y∈U.j++[(⟨4,U.b,0,0,0,⟨#[]⟩⟩:Ev)]:=d;rcases List.mem_append.1 d with d|d;exact j.inst y d hk;grind;show U.b.toNat<=_;rw[c.a];omega
 rw[<-M];unfold PS.install at hf;split at hf<;>exact hf
def Gh.d(X:Gh)(m:Int)(c:Υ):Gh:={X with D:=X.D++[(m,c)]}
def kh(X:Gh)(m:Int)(c:Υ)(i:Nat):qn i X (X.d m c):=⟨λ_ h=>h,⟨_,rfl⟩,λ_ _ h=>h,λ_ _ h=>.inl h,λ_ _ _ _ _ h=>h,λ_ _ _ _ _ h=>.inl h,λ_ _ _ h=>h,λ_ _ _ h=>.inl h⟩
def XI.t(x:XI X n){Q:Int}(l:X.e v V)(F:v.toNat=X.D.length)(y:lT Q (X.a n v))(E:nI (X.a n v) Q)(o:∀q,aV Q q=true->X.f v q V.b):XI (X.d V.m V.a) n:=by
 have e:∀{v:Int},v.toNat<=X.D.length->(X.d V.m V.a).a n v=X.a n v:=λh=>(kh X V.m _ 0).e h;have G:(X.d V.m V.a).D.length=X.D.length+1:=by simp[Gh.d]
 refine⟨x.k,x.j,λv W k=>?_,x.f,λu m c k=>?_,λv W k=>?_,λv m k=>?_,x.e,x.g⟩;have:=(x.a v W k).2.2.2.2.2.2.2;rw[e this];exact x.h v W k;have k:(X.D++[(V.m,V.a)])[u]?=some _:=k;by_cases z:u<X.D.length;rw[List.getElem?_append_left z]at k;let⟨b,Q,d,a,g,j⟩:=x.i u m c k;rw[e ω];exact⟨b,Q,d,a,g,j⟩;rw[List.getElem?_append_right ω]at k;have p:=(List.getElem?_eq_some_iff.1 k).1;simp at p;rw[show u-X.D.length=0 by omega]at k;simp at k;obtain⟨rfl,rfl⟩:=k;have H:=(x.a v V l).2.2.2.2.2.2.1;have t:u=v:=ω;rw[t,e ω];exact⟨V.b,Q,l,y,E,o⟩;let⟨d,a,g,j,C,s,A,w⟩:=x.a v W k;rw[e w];exact⟨d,a,g,j,C,s,A,ω⟩;let⟨d,a,g⟩:=x.d v m k;grind
def SI.b9(h:SI X n st N)(j:i<n)(x:XI (X.d V.m V.a) n):SI (X.d V.m V.a) n st N:=by have P:=h.a i j;have e:=kh X V.m V.a i;have c:On n _ (st i):=.a rfl rfl rfl;have:=h.e e (λ_ h=>.inl h) c x (λ_=>?_) λ_ _ g=>.inl g;rw[bp]at this;exact this;refine⟨P.b,P.a,P.num,P.c,P.e.h e,Nat.le_trans P.g e.d,λo=>?_⟩;have p:=(P.d o).a3 (pI e c) P.b.view.1;refine⟨Nat.le_trans p.c e.d,by rw[e.e p.c];exact p.mem,p.a,λu y a=>⟨e.a (p.left u y a).1,(p.left u y a).2⟩,p.vt,p.an,p.pr,p.vote,λB d=>?_,p.row,p.kn⟩;have b:=p.lead B d;exact⟨b.num,b.c,b.d,b.g,b.e,b.gath,b.vote⟩
def SI.installIf(h:SI X n st N)(l:i<n)(y:(st i).out=false)(hv:(st i).b<2147483648)(K:(st i).d=some B)(Y:B.e=false):∃g,SI g n (dL st i ((st i).installIf B)) N:=by
 unfold PS.installIf;split
 .rename_i A
  have P:=h.a i l;have p:=P.d y;have b:=p.lead B K;let⟨O,L,I⟩:=b.vote Y;have s:=p.vote.2 (by have:=b.c;omega);have h0:=P.b.view.1;unfold PS.Nj at A;rw[decide_eq_true_eq]at A;have a:nI (X.a n (st i).b) B.d:=by rw[<-p.mem];exact A
  have c:lT B.d (X.a n (st i).b):=by rw[<-p.mem];exact L
  have t:∀q,aV B.d q=true->X.f (st i).b q (st i).a.b:=λq k=>by rw[O];exact I q k
  obtain⟨g,E,hD⟩:∃g,SI g n st N/\g.D[(st i).b.toNat]?=some ((st i).a.m,(st i).a.a):=by
   by_cases w:(st i).b.toNat<X.D.length
   .have Z:X.D[(st i).b.toNat]?=some (X.D[(st i).b.toNat].1,X.D[(st i).b.toNat].2):=by simp[w]
    have u:(((st i).b.toNat:Nat))=(st i).b:=ω;have:=h.c.x Z (by rw[u];exact s.2.1) (by rw[u];exact c) (by rw[u];exact a) (by rw[u];exact t);grind
   have M:(st i).b.toNat=X.D.length:=by have:=P.g;omega
   exact⟨_,h.b9 l (h.c.t s.2.1 M c a t),by show (X.D++_)[_]?=_;grind⟩
  have H:=E.a i l;have z:=E.h (i:=i) (l:=(st i).L8) (fr:=λT(q:Nat)=>⟨7,0,q,(st i).a.m,T.b,0,0,[],(st i).a.a,(st i).Mm (st i).a.a⟩) λT q t⟨k,o⟩Q=>?_
  .let⟨k,o⟩:=df (st i);have z:SI g n (dL st i (st i).MF) N:=z;refine⟨g,z.on (g:=λS=>S.install (st i).a.m (st i).a.a) λd e C=>?_⟩;have x:(d i).b=(st i).b:=by rw[e];exact o.a.a
   have F:(d i).a=(st i).a:=by rw[e];exact o.a.c
   have G:(d i).out=false:=by rw[e];exact o.a.out.trans y
   have j:=(((C.a i l).d G).vote.2 (by rw[F];have:=b.c;omega)).2.2;rw[F]at j;exact C.install l G ν j ω
  have x:T.b=_:=o.a.a;refine⟨Q,⟨q,by rw[<-P.c];exact(eX.1 t).1,rfl⟩,λm h=>?_,?_,nofun,nofun,nofun,nofun,λ_=>⟨?_,?_⟩⟩;show (T.b,m)∈_;rw[x];exact H.a.ms m (jK h);grind;grind
  show gj _ n T.b _ (st i).a.a;rw[x];exact gp (((H.d y).vote.2 (by have:=b.c;omega)).2.2)
 exact⟨X,by rw[bp];exact h⟩
def SI.b3(h:SI X n st N)(b:i<n)(d:(st i).out=false)(p:(st i).b<2147483648)(j:(st i).d=some B)(m:B.e=true):∃o,SI o n (dL st i ((st i).MA B)) N:=by
 unfold PS.MA;split
 .rename_i c
  simp at c;let⟨w,t⟩:=h.a6 b d j m c.1 c.2;obtain⟨k,a⟩:=bo _ _;have:=(t.on (g:=λS=>S.Mj _) λl e s=>s.p b ν (by rw[e]) rfl).installIf b (by rw[bc];exact a.a.out.trans d) (by rw[bc,a.a.a];exact p) (by rw[bc,a.a.f]) rfl;let⟨u,g⟩:=this;rw[bc,eG]at g;grind
 exact⟨X,by rw[bp];exact h⟩
def me(x:XI X n)(e:S.m=X.a n S.b){l:List Msg}(a:∀m∈l,MsgW n m)(b:∀m∈l,(S.b,m)∈X.C):∀m∈l,∃s:Nat,m.a=s/\aV S.m s=true/\1<=m.seq:=λm h=>by let⟨s,c,d⟩:=(a m h).s;have k:=x.d _ _ (b m h);grind
def SI.y(h:SI X n st N)(c:gV X n i st f)(A:f.c=4):∃X',SI X' n (dL st i ((st i).Mv f)) N:=by
 unfold PS.Mv;split;exact⟨X,by rw[bp];exact h⟩;rename_i B K
 split
 .rename_i u
  simp at u;let⟨⟨g,H⟩,d⟩:=u;have P:=h.a i c.a;have p:=P.d c.e;have w:=P.b.lead B K;let⟨x,z,M⟩:=c.h.e A;rw[c.g]at x z M;have hv:(st i).b<2147483648:=by have:=c.d.view.2;rw[c.g]at this;exact this
  have F:f.f.toNat≠(st i).c:=by rw[P.num];exact c.q.2.1
  have E:=(h.g c (.inr (.inr A))).on (g:=λS=>S.Mc f.d) λW e h'=>h'.d c.a c.d.msgs λm hm=>by rw[e];exact c.c m hm
  have j:=fq ((st i).My f.f.toNat f.g) f.d;have b:∀r,gj (wd X n st) n (st i).b f.d r->gj (wd X n st) n (st i).b (((st i).My f.f.toNat f.g).Mc f.d).o r:=λr k=>by exact(p.p P.b P.c P.num c.q.1 c.q.2.1 (c.g▸c.h.row (.inr (.inr A)))).w (by show (List.set _ _ _).length=n;rw[List.length_set,P.b.a,P.c]) (me h.c p.mem c.d.msgs c.c) k
  have l:wd X n (dL st i (((st i).My f.f.toNat f.g).Mc f.d))=wd X n st:=fL (by rw[j];rfl) (by rw[j];rfl) (by rw[j];exact kK _ F _);have I:=E.a i c.a;rw[bc,l]at I;have C:(((st i).My f.f.toNat f.g).Mc f.d).b=(st i).b:=by rw[j];rfl
  have L:(((st i).My f.f.toNat f.g).Mc f.d).d=some B:=by rw[j];exact K
  have D:(((st i).My f.f.toNat f.g).Mc f.d).out=false:=by rw[j];exact c.e
  have Q:(((st i).My f.f.toNat f.g).Mc f.d).a=(st i).a:=by rw[j];rfl
  generalize ((st i).My f.f.toNat f.g).Mc f.d=S at E b l I C L D Q⊢;have s:=(I.d D).lead B L;let⟨g1,g2,Z,g4⟩:=s.gath H;have t:aV B.a f.f.toNat=true/\aV B.c f.f.toNat=false:=by rw[lX w.asked w.answ,Bool.and_eq_true]at d;exact⟨d.1,ν⟩
  have y:∀q,aV (j9 B.c (aO f.f.toNat)) q=true↔aV B.c q=true\/f.f.toNat=q:=λq=>by rw[tj w.answ (.c (Nat.lt_of_lt_of_le c.q.1 (by rw[<-P.c];exact P.b.c))),u5,Bool.or_eq_true,decide_eq_true_eq]
  have R:=E.m (i:=i) c.a (L:=some (B.f f.f.toNat (f.g,⟨f.e,f.b,f.i⟩))) (λB' e=>?_) λ_ B' e=>?_;simp only[bc,eG]at R;have:=R.b3 c.a (B:=B.f f.f.toNat (f.g,⟨f.e,f.b,f.i⟩)) (by rw[bc];exact D) (by rw[bc];grind) (by rw[bc]) H;let⟨X2,h4⟩:=this;rw[bc,eG]at h4;grind;cases e;rw[bc,Q,<-P.c];have O:=FrW.b (S:=st i) (by rw[P.c];exact c.d) A;exact w.g (Nat.lt_of_lt_of_le c.q.1 (by rw[<-P.c];exact P.b.c)) t.2 ⟨O.2.1,c.d.voted,O.2.2,c.d.members⟩;cases e;rw[bc,l];refine⟨s.num,s.c,s.d,s.g,s.e,λ_=>⟨g1,λq d=>?_,λa o=>?_,λq d=>?_⟩,λk=>absurd (H.symm.trans k) θ⟩;rcases (y q).1 d with d|rfl;exact g2 q d;exact t.1;rcases List.mem_append.1 o with o|o;let⟨q,Y,q2⟩:=Z a o;exact⟨q,(y q).2 (.inl Y),q2⟩;rw[List.mem_singleton]at o;subst o;rw[C];exact⟨f.f.toNat,(y _).2 (.inr rfl),by show X.g _ _ B.g _ _;rw[g];exact x,b _ z,λk=>b _ (M k)⟩;rcases (y q).1 d with d|rfl;let⟨a,x,z⟩:=g4 q d;exact⟨a,List.mem_append_left _ x,z⟩;rw[C];exact⟨_,List.mem_append_right _ (List.mem_singleton_self _),by show X.g _ _ B.g _ _;rw[g];exact x⟩
 exact⟨X,by rw[bp];exact h⟩
def SI.j(h:SI X n st N)(c:gV X n i st f)(y:f.c=6):∃C,SI C n (dL st i ((st i).Mk f)) N:=by
 unfold PS.Mk;split;exact⟨X,by rw[bp];exact h⟩;rename_i B l
 split
 .rename_i d
  simp at d;let⟨⟨g,j⟩,a⟩:=d;have P:=h.a i c.a;have b:=(P.d c.e).lead B l;have w:=P.b.lead B l;let⟨D,u,t⟩:=b.vote j;have s:=c.h.l y;rw[c.g]at s;have m:=Nat.lt_of_lt_of_le c.q.1 (by rw[<-P.c];exact P.b.c);have o:∀q,aV (j9 B.d (aO f.f.toNat)) q=true↔aV B.d q=true\/f.f.toNat=q:=λq=>by rw[tj w.acc (.c m),u5,Bool.or_eq_true,decide_eq_true_eq]
  have z:=h.m c.a (L:=some {B with d:=j9 B.d (aO f.f.toNat)}) (λA e=>?_) λ_ A e=>?_;have:=z.installIf c.a (B:={B with d:=j9 B.d (aO f.f.toNat)}) (by rw[bc];exact c.e) (by rw[bc];have:=c.d.view.2;rw[c.g]at this;omega) (by rw[bc]) j;let⟨E,x⟩:=this;rw[bc,eG]at x;grind;cases e;rw[<-P.c];exact⟨w.f,w.c,w.cut,w.num,w.out,w.asked,w.answ,w.acc.f (.c m),w.e⟩;cases e;refine⟨b.num,b.c,b.d,b.g,b.e,λk=>absurd (j.symm.trans k) θ,λ_=>⟨D,λq a=>?_,λq a=>?_⟩⟩;rcases (o q).1 a with a|rfl;exact u q a;exact c.mem;rcases (o q).1 a with a|rfl;exact t q a;show X.f _ _ _;rw[g];exact s
 exact⟨X,by rw[bp];exact h⟩
def SI.o(h:SI X n st N)(c:gV X n i st f)(o:f.c=7):SI X n (dL st i ((st i).M3 f)) N:=by
 have P:=h.a i c.a;have p:=P.d c.e;let⟨j,g⟩:=c.h.c o;rw[c.g]at j g;have a:=fq (st i) f.d;have b:=p.w (by rw[P.b.a,P.c]) (me h.c p.mem c.d.msgs c.c) g;have e:wd X n (dL st i ((st i).Mc f.d))=wd X n st:=fL (by rw[a]) (by rw[a]) (by rw[a];rfl);have d:((st i).Mc f.d).b=(st i).b:=by rw[a]
 have m:((st i).Mc f.d).out=false:=by rw[a];exact c.e
 have:=(h.d c.a c.d.msgs c.c).install c.a (by rw[bc];exact m) (by rw[bc,d];exact j) (by rw[bc,e,d];exact b) (by rw[bc,d];have:=c.d.view.2;rw[c.g]at this;omega);rw[bc,eG]at this;exact this
def SI.w(h:SI X n st N)(o:i<n)(d:(st i).out=false)(c:FrW n f)(x:f.h<(st i).b):SI X n (dL st i ((st i).MM f)) N:=by
 unfold PS.MM;split;rw[bp];exact h;have P:=h.a i o;have p:=P.d d;have g:=c.view.1;have a:f.h.toNat<(st i).i.length:=by rw[P.b.left.2 d];omega
 let⟨l,b⟩:=p.left f.h.toNat (st i).i[f.h.toNat] ς;have s:(st i).i.getD f.h.toNat ⟨0,[],[]⟩=(st i).i[f.h.toNat]:=by simp[a]
 have e:f.h.toNat=f.h:=ω;have:=h.h (i:=i) (l:=[()]) (fr:=λ_ _=>⟨7,0,((f.f.toNat:Nat):Int),(st i).i[f.h.toNat].m,f.h,0,0,[],(st i).i[f.h.toNat].a,(st i).i[f.h.toNat].b⟩) λT _ _⟨k,w⟩j=>?_;rw[s];exact this;let⟨q,u,y⟩:=c.src;refine⟨j,⟨_,ω,rfl⟩,λm t=>?_,⟨g,ν⟩,nofun,nofun,nofun,nofun,λ_=>⟨l,?_⟩⟩;have:=P.a.left _ _ (ς:(st i).i[f.h.toNat]?=some (st i).i[f.h.toNat]) m t;grind;rw[e]at b;exact b
def SI.b1(h:SI X n st N)(e:i<n)(g:(st i).out=false)(m:qC X (wd X n st) n f)(d:FrW n f)(j:f.f≠i):∃b,SI b n (dL st i ((st i).MW f)) N:=by
 have a:∃b,SI b n (dL st i _) N:=⟨X,by rw[bp];exact h⟩;unfold PS.MW;split;exact a;split;exact⟨X,h.w e g d ‹_›⟩;split
 .rename_i l
  have c:gV X n i st f:=⟨e,g,m,d,ω,l,j⟩;unfold PS.L9;split;exact⟨X,h.a2 c ‹_›⟩;split;exact⟨X,h.u c ‹_›⟩;split;exact h.x c;split;exact h.y c ‹_›;split;exact h.t c ‹_›;split;exact h.j c ‹_›;split;exact⟨X,h.o c ‹_›⟩;omega
 omega
end
section
open Codec (Msg Frame)
variable {X X':Gh}{n i:Nat}{Γ Γ':Wd}{S T U:PS}{f:Frame}{v k:Int}{st:Nat->PS}{N N':Frame->Prop}{B:Bal}{G:Grp}{q:Nat}{net:List (Int×ByteArray)}{g:Frame}
section
def SI.r(h:SI X n st N)(a:i<n)(c:(st i).out=false):∃b,SI b n (dL st i (st i).Me) N:=by
 unfold PS.Me;split
 .rename_i e
  simp at e;rw[u2 (h.a i a).b e.1.1];let⟨b,m⟩:=h.a9 a c e.2;exact⟨b,m.on (g:=λS=>S.Mi _) λj _ l=>l.q a _⟩
 split
 .rename_i B d
  unfold PS.Mr;split;exact⟨X,h.q a B⟩;rename_i o
  exact⟨X,h.p a c d ν⟩
 exact⟨X,by rw[bp];exact h⟩
def vm(X:Gh)(Γ:Wd)(n:Nat)(S T:PS):Prop:=(∃k,Sends S T k)/\∀f∈T.e,f∈S.e\/qC X Γ n f
def vm.b:vm X Γ n S S:=⟨⟨0,.f S⟩,λ_ h=>.inl h⟩
def vm.a(h:vm X Γ n S T)(e:Codec.dg {g with f:=S.c}=true->qC X Γ n {g with f:=S.c}):vm X Γ n S (T.MZ g):=by
 let⟨⟨k,c⟩,d⟩:=h;refine⟨⟨_,c.g (ak T _)⟩,λf a=>?_⟩;unfold PS.MZ at a;split at a
 .rename_i b
  rw[c.a.i]at b;rcases List.mem_append.1 a with a|a;grind;rw[List.mem_singleton]at a;subst a;rw[c.a.i];grind
 grind
def SI.b5(h:SI X n st N)(C:i<n):∃b,SI b n (dL st i (st i).tick) N:=by
 unfold PS.tick;split
 .rename_i I
  let⟨b,A⟩:=h.r C (Bo I).2;refine⟨b,?_⟩;have P:=A.a i C;rw[bc]at P;have d:=nY (X:=b) (n:=n) (dL st i (st i).Me) i;rw[bc]at d;generalize (st i).Me=S at*;have z:∀T k,Sends S T k->T.b=S.b/\T.Ml=S.Ml:=λT k a=>⟨a.a.a,by rw[a.e];rfl⟩;have D:((S.c:Int)).toNat=i:=by rw[P.num];rfl
  have c:=fT (P:=λT=>vm b (wd b n (dL st i S)) n S T) (g:=λT q=>if T.h then T.gossip q else (T.gossip q).Mz q) S.L8 S (λT q w E=>?_) .b;have F:=A.a7 (by rw[bc];exact c.1.elim λk a=>a.e) (by rw[bc];exact c.2);rw[eG]at F;exact F;have o:q<n:=by rw[<-P.c];exact(eX.1 w).1
  have r:vm b (wd b n (dL st i S)) n S (T.gossip q):=E.a λu=>by obtain⟨⟨k,a⟩,-⟩:=E;let⟨j,t⟩:=z T k a;refine⟨u,⟨q,o,rfl⟩,nofun,?_,λ_=>?_,nofun,nofun,nofun,nofun⟩;show 0<=T.b/\T.b.toNat<=_;rw[j];exact⟨P.b.view.1,P.g⟩;rw[j,t,D];exact d
  split;exact r;generalize T.gossip q=H at r;have y:∀m∈H.Mp,m∈S.o:=λm y=>by obtain⟨⟨k,a⟩,-⟩:=r;have:=lq.1 y;rw[a.e]at this;omega
  refine fT _ H (λl m s e=>?_) r;split;refine e.a λu=>?_;obtain⟨⟨k,a⟩,-⟩:=e;let⟨j,t⟩:=z l k a;refine⟨u,⟨q,o,rfl⟩,λx p=>?_,?_,λ_=>?_,nofun,nofun,nofun,nofun⟩;have p:x∈[m]:=p;rw[List.mem_singleton]at p;subst p;show (l.b,x)∈_;rw[j];exact P.a.ms x (y x s);show 0<=l.b/\l.b.toNat<=_;rw[j];exact⟨P.b.view.1,P.g⟩;show (wd b n _).tr l.b ((S.c:Int)).toNat l.Ml;rw[j,t,D];exact d;exact e
 exact⟨X,by rw[bp];exact h⟩
def SI.z(h:SI X n st N)(c:i<n){s:List UInt8}(l:∃f,N f/\s=Codec.im f):∃m,SI m n (dL st i ((st i).Mn s)) N:=by
 unfold PS.Mn;split
 .rename_i e
  simp at e;obtain⟨f,j,rfl⟩:=l;have a:=h.a4 f j;have o:(Codec.bO (Codec.im f)).1=f:=by rw[Codec.rB f a.a]
  rw[o]at e⊢;have P:=h.a i c;have b:=LB a.a e.2;rw[P.c]at b;have d:=e.2;simp only[na,Bool.and_eq_true,bne_iff_ne,ne_eq]at d;exact h.b1 c (Bo e.1.1).2 a b (by rw[<-P.num];omega)
 exact⟨X,by rw[bp];exact h⟩
def SI.c2(h:SI X n st N)(j:i<n):∀{l:List (List UInt8)},(∀s∈l,∃f,N f/\s=Codec.im f)->∃a,SI a n (dL st i ((st i).Nc l)) N:=by
 intro l d;have b:∀(l:List _)(X:Gh)(S:PS),(∀s∈l,∃f,N f/\s=Codec.im f)->SI X n (dL st i S) N->∃a,SI a n (dL st i (l.foldl PS.Mn S)) N:=by
  intro l;induction l with
  |nil=>grind
  |cons s l p=>
   intro X S d h;obtain⟨o,c⟩:=h.z j (d s ς);rw[bc,eG]at c;grind
 obtain⟨o,c⟩:=b l X _ d (by rw[bp];exact h);obtain⟨m,e⟩:=c.b5 j;rw[bc,eG]at e;exact⟨m,e⟩
def SI.a1(h:SI X n st N)(b:i<n)(a:q<6):SI X n (dL st i ((st i).Mu q)) N:=by unfold PS.Mu;split;exact h.s b (.c a);rw[bp];exact h
def SI.b8(h:SI X n st N)(b:i<n):SI X n (dL st i (st i).crash) N:=by
 have P:=h.a i b;refine h.b rfl rfl rfl (λ_=>P.h ⟨rfl,rfl,rfl,rfl,rfl,rfl⟩ P.b.crash P.a.crash λ_ p=>?_) λ_ _ c=>.inl c;exact⟨p.c,p.mem,p.a,p.left,p.vt,p.an,p.pr,p.vote,λB a=>by have k:=p.lead B a;exact⟨k.num,k.c,k.d,k.g,k.e,k.gath,k.vote⟩,p.row,p.kn⟩
def jE(net:List (Int×ByteArray))(f:Frame):Prop:=Codec.dg f=true/\zY f∈net
structure SG(G:Grp):Prop where
 j:∃X,SI X G.n G.b (jE G.a)
 snt:∀i,i<G.n->(G.b i).e=[]
 net:∀c∈G.a,∃f,Codec.dg f=true/\c=zY f/\∃q:Nat,q<G.n/\f.j=q
def rC{f:Frame}(c:Codec.dg f=true)(d:Codec.dg g=true)(h:zY f=zY g):f=g:=by
 have b:Codec.im f=Codec.im g:=by have:=congrArg (λx=>x.2.data.toList) h;exact this
 have a:=Codec.rB f c;rw[b,Codec.rB g d]at a;grind
def SI.b2(h:SI X n st N)(b:∀f,N' f->N f):SI X n st N':=⟨h.c,h.a,λf a=>h.a4 f (b f a),h.snt⟩
def SI.a3{lim:Nat}(h:SI X n st (jE net))(m:i<n):SI X n (dL st i {st i with e:=[]}) (jE (tr lim net ((st i).e.map zY))):=by
 have b:=h.a7 (T:={st i with e:=[]}) rfl nofun
 refine⟨b.c,b.a,λf d=>?_,b.snt⟩;have a:=gX (P:=λc=>c∈net\/c∈(st i).e.map zY) _ _ (λ_ h=>.inl h) (λ_ h=>.inr h) _ d.2;rcases a with a|a;exact b.a4 f ⟨d.1,a⟩;let⟨g,l,e⟩:=List.mem_map.1 a;have k:=h.snt i m g l;have:=rC k.a d.1 e;subst this;have j:wd X n (dL st i {st i with e:=[]})=wd X n st:=fL (T:={st i with e:=[]}) rfl rfl rfl;rw[j];exact k
def SG.d(h:SG G)(m:q<G.n)(d:∀c∈net,c∈G.a)(p:∃X,SI X G.n (dL G.b q T) (jE net)):SG (({G with a:=net}.Nk q T).MB q):=by
 let⟨X,o⟩:=p;have a:=o.a3 (lim:=G.c) m;rw[bc,eG]at a;have l:(({G with a:=net}.Nk q T).MB q).b=dL G.b q {T with e:=[]}:=by funext j;show (if j=q then {(if q=q then T else G.b q)with e:=[]} else if j=q then T else G.b j)=_;unfold dL;split;simp;rfl
 have b:(({G with a:=net}.Nk q T).MB q).a=tr G.c net (T.e.map zY):=by show tr G.c net ((if q=q then T else G.b q).e.map _)=_;rw[if_pos rfl]
 refine⟨⟨X,by rw[l,b];exact a⟩,λj s=>?_,λc a=>?_⟩;rw[l];by_cases e:j=q;rw[e,bc];rw[jm e];exact h.snt j s;rw[b]at a;refine gX _ _ (λc a=>h.net c (d c a)) (λc a=>?_) c a;obtain⟨f,r,rfl⟩:=List.mem_map.1 a;have:=o.snt q m f (by rw[bc];exact r);exact⟨f,this.a,rfl,this.dst⟩
def SG.p(h:SG G)(k:Nat):SG (G.drop k):=by let⟨X,b⟩:=h.j;exact⟨⟨X,b.b2 λf a=>⟨a.1,List.mem_of_mem_eraseIdx a.2⟩⟩,h.snt,λc d=>h.net c (List.mem_of_mem_eraseIdx d)⟩
def SG.b(h:SG G)(k:Nat):SG (G.deliver k):=by
 unfold Grp.deliver;split;exact h;rename_i c b
 have e:=List.mem_of_getElem? b;obtain⟨f,a,rfl,q,d,p⟩:=h.net c e;let⟨X,j⟩:=h.j;have m:f.j.toNat=q:=ω;let⟨l,o⟩:=j.z d ⟨f,⟨a,e⟩,rfl⟩;have:=h.d (net:=G.a.eraseIdx k) d (λc b=>List.mem_of_mem_eraseIdx b) ⟨l,o.b2 λf a=>⟨a.1,List.mem_of_mem_eraseIdx a.2⟩⟩;show SG ((({G with a:=G.a.eraseIdx k}).Nk f.j.toNat ((G.b f.j.toNat).Mn (Codec.im f))).MB f.j.toNat);rw[m];exact this
def SG.o(h:SG G)(k:Nat):SG (G.copy k):=by
 unfold Grp.copy;split;exact h;rename_i c d
 have a:=gX (lim:=G.c) [c] G.a (λ_ h=>h) λy j=>ν;let⟨X,e⟩:=h.j;exact⟨⟨X,e.b2 λf b=>⟨b.1,a _ b.2⟩⟩,h.snt,λc d=>h.net c (a c d)⟩
def SG.h(h:SG G)(a:q<G.n)(t:ByteArray):SG (G.cast q t):=by let⟨X,b⟩:=h.j;exact h.d a (λ_ h=>h) (b.c1 a t)
def SG.s(h:SG G)(a:q<G.n):SG (G.tick q):=by let⟨X,b⟩:=h.j;exact h.d a (λ_ h=>h) (b.b5 a)
def SG.r(h:SG G){T:PS}(b:∃X,SI X G.n (dL G.b q T) (jE G.a))(c:T.e=(G.b q).e):SG (G.Nk q T):=by
 refine⟨b,λj a=>?_,h.net⟩;show (if j=q then T else G.b j).e=[];split
 .rename_i e;rw[c,<-e];exact h.snt j a
 exact h.snt j a
def SG.e(h:SG G){r:Nat}(a:q<G.n)(c:r<G.n):SG (G.suspect q r):=by let⟨X,b⟩:=h.j;refine h.r ⟨X,b.a1 a (Nat.lt_of_lt_of_le c (by have:=(b.a q a).b.c;rw[(b.a q a).c]at this;omega))⟩ ?_;unfold PS.Mu;split<;>rfl
def SG.l(h:SG G)(a:q<G.n):SG (G.crash q):=by let⟨X,b⟩:=h.j;exact h.r ⟨X,b.b8 a⟩ rfl
def SI.a8(a:∀c∈net,∃f,Codec.dg f=true/\c=zY f)(h:SI X n st (jE net)):∀k,k<=n->∃o,SI o n (λq=>if q<k then (st q).Nc (Grp.MT net q) else st q) (jE net)
 |0,_=>⟨X,by simpa using h⟩
 |k+1,t=>by
   let⟨u,r⟩:=SI.a8 a h k ω;have d:=r.c2 t (l:=Grp.MT net k) λs m=>by obtain⟨c,b,rfl⟩:=List.mem_map.1 m;have b:=(List.mem_filter.1 b).1;obtain⟨f,l,rfl⟩:=a c b;exact⟨f,⟨l,b⟩,rfl⟩
   let⟨j,p⟩:=d;refine⟨j,?_⟩;have e:(λq=>if q<k+1 then (st q).Nc (Grp.MT net q) else st q)=dL (λq=>if q<k then (st q).Nc (Grp.MT net q) else st q) k ((if k<k then (st k).Nc (Grp.MT net k) else st k).Nc (Grp.MT net k)):=by funext q;unfold dL;by_cases e:q=k;grind;grind
   rw[e];exact p
def SG.a(h:∃X,SI X G.n G.b (jE G.a))(a:∀c∈G.a,∃f,Codec.dg f=true/\c=zY f/\∃q:Nat,q<G.n/\f.j=q):∀k,k<=G.n->(∃X,SI X G.n (carried G k).b (jE (carried G k).a))/\(∀j,j<k->((carried G k).b j).e=[])/\∀c∈(carried G k).a,∃f,Codec.dg f=true/\c=zY f/\∃q:Nat,q<G.n/\f.j=q
 |0,_=>⟨h,nofun,a⟩
 |k+1,e=>by let⟨⟨X,d⟩,p,l⟩:=SG.a h a k ω;rw[lU];refine⟨⟨X,d.a3 e⟩,λj o=>?_,λc b=>?_⟩;show (if j=k then {(carried G k).b k with e:=[]} else (carried G k).b j).e=[];grind;refine gX _ _ l (λc b=>?_) c b;obtain⟨f,m,rfl⟩:=List.mem_map.1 b;have:=d.snt k e f m;exact⟨f,this.a,rfl,this.dst⟩
def SI.b7{a:Nat->PS}(h:SI X n st N)(e:∀q,q<n->st q=a q):SI X n a N:=by
 have c:wd X n st=wd X n a:=by unfold wd;congr 1;grind;grind
 exact⟨h.c,λi b=>by rw[<-c,<-e i b];exact h.a i b,λf d=>by rw[<-c];exact h.a4 f d,λi b f d=>by rw[<-c];exact h.snt i b f ν⟩
def SG.m(h:SG G):SG G.round:=by let⟨X,o⟩:=h.j;obtain⟨m,r⟩:=o.a8 (λc p=>(h.net c p).elim λf d=>⟨f,d.1,d.2.1⟩) G.n (Nat.le_refl _);have l:∃X,SI X G.MU.n _ (jE G.MU.a):=⟨m,(r.b7 λq j=>if_pos j).b2 λf d=>by cases d.2⟩;obtain⟨a,b,c⟩:=SG.a l nofun G.n (Nat.le_refl _);have e:G.round.n=G.n:=(jG _ _ (Nat.zero_le _)).2.1;exact⟨by rw[e];exact a,by rw[e];exact b,by rw[e];exact c⟩
def uW{b c:Nat}(j:1<=n/\n<=6):SG (Grp.Nm n b c):=by
 refine⟨⟨⟨[],[],λ_ _=>False,λ_ _ _ _ _=>False,λ_ _ _=>False⟩,?_⟩,λ_ _=>rfl,nofun⟩;have m:∀(q s:Nat),((List.replicate n (List.replicate n (0:Int))).getD q []).getD s 0=0:=λq s=>by grind
 refine⟨⟨nofun,nofun,nofun,nofun,nofun,nofun,nofun,nofun,nofun⟩,λi d=>⟨DK j.2 d,Ij d,rfl,rfl,⟨⟨rfl,rfl,rfl⟩,λu e=>?_,nofun⟩,Nat.zero_le _,λ_=>⟨Nat.zero_le _,rfl,?_,nofun,nofun,nofun,nofun,⟨Int.le_refl _,λk=>absurd rfl k⟩,nofun,⟨λs _ k l a=>?_,λs _ k l a=>?_⟩,λq _ _ _ s _ k=>?_⟩⟩,λf h=>absurd h.2 List.not_mem_nil,λ_ _=>nofun⟩;have e:(u:Int)<0:=e;omega;have:∀n,n<7->∀i,i<n->aV (2^n-1) i=true:=θ;exact this n ω i d;have a:k<=((List.replicate n (List.replicate n (0:Int))).getD i []).getD s 0:=a;grind;have a:k<=((List.replicate n (List.replicate n (0:Int))).getD i []).getD s 0:=a;grind;have k:0<((List.replicate n (List.replicate n (0:Int))).getD q []).getD s 0:=k;grind
variable {fair:Bool}{win lim:Nat}{cr:Book}
def dY.sg(h:dY fair n win lim G cr)(d:1<=n/\n<=6):SG G:=by
 have e:=λ{G cr}(h:dY fair n win lim G cr)=>(h.a d).n;induction h with
 |start=>exact(uW d).h (by show 0<n;omega) _
 |deliver k _ a=>exact a.b k
 |drop k _ a=>exact a.p k
 |copy k _ a=>exact a.o k
 |cast q t b _ h a=>exact a.h ν t
 |tick q b h a=>exact a.s ν
 |crash q b h a=>exact a.l ν
 |suspect q r b j _ h a=>exact a.e ν ν
 |round _ a=>exact a.m
end
