import Derived.Orders
import Derived.Test.YtoklolfaemhfnaaGreatDoorZax
import Derived.Test.YtoklolfaemhfnaaGreatDoorZbg
import Derived.Test.YtoklolfaemhfnaaGreatDoorZbi
set_option maxRecDepth 100000
set_option maxHeartbeats 0
set_option linter.defProp false
open Go.Proofs.Tryz
namespace Go.Proofs.Y
section
open Go.RowKit
open Go.ChangeMaps (setBlock)
open Md (PS Vote Bal Lft Wf MsgW Sends FrW)
variable {w w' wb:Δ}{F:ϑ}{b X:Nat}{S S':PS}{o o1 o':Pl}{f:Codec.Frame}{m:ϥ}{tv:Θ}
def F6(p:PP w F b S o)(r:Wf S)(A:MsgW S.n m)(y:∃l n c,tv=.slice l n c)(a:Int):ϖ 138 #[pT b 0,aU m tv,J a] w λe q=>ϱ e ϳ/\∃d,To w F b o q (S.Ms m a) {o with g:=d}:=by
 let ⟨s,u,g⟩:=A.s
 obtain⟨l,v,z,rfl⟩:=y;apply (pG p.e m l v z a s u g r.num (ϕ r.a7)).m;rintro q⟨j,d,k,t⟩;refine⟨rfl,d,p.step (j.e λx _ i=>i.elim .inl λi=>i.elim (λe=>.inr (.inr (.inl e))) λe=>.inr (.inr (.inr (.inl e)))) (λ_ h=>h) k (λ_ h=>.inl h) ?_ p.ms rfl rfl rfl⟩;simp only[PS.Ms,PS.Ng,PS.Ml,(by rw[g];rfl:m.a.toNat=s)];exact t
def PP.a5(p:PP w F b S o)(j:∀x∈S.o,Md.eA m.a m.seq x=false)(e:aE w (o.R F b) tv m.c):∃k,(Instr.mapUpdate 156 (.map (some o.m)) (bQ m.a m.seq) (aU m tv)).run prog w=.ok () k/\∃t,To w F b o k {S with o:=S.o++[m]} t:=
 have c:∀x∈o.l,gL m.a m.seq x.1=false:=λx a=>j x.1 (p.ms▸Hq a);have i:eB w F 3 1 tv _ _:=⟨e.d,λg d=>(e.c g d).1⟩
 let ⟨s,q,r⟩:=p.e.a3 m tv c i λg d n=>(e.c g d).2 (.inl (.inr (.inr (.inl n))))
 ⟨_,s,_,p.step (cW.f q λx a=>by injection a with a;subst a;exact .inr (.inl rfl)) (λ_ h=>.inl h) (λ_ h=>.inl h) (λ_ h=>.inl h) r (by rw[y8,p.ms];rfl) rfl rfl rfl⟩
def vz(b:Nat)(t:ϝ)(v:Int)(j:¬v=0){Q:Ξ}(g:ϖ 136 #[pT b 0,.string t] w λe a=>ϱ e (J v)/\Q a):ϖ 97 #[pT b 0,.string t] w λe a=>ϱ e (J v)/\Q a:=by go_enter func97,ntmps97;go_wp21;apply (ah g).m;rintro h c;have i:Hid (Q h):=c;go_wp21;go_ret;exact⟨rfl,i⟩
def vX{t:ϝ}(h:S.Mf t=0):S.MC=0/\S.h=false/\S.Ml.getD S.c 0<20:=by
 unfold PS.Mf at h;by_cases a:S.MC=0
 .rw[if_neg (by simp[a])]at h;by_cases d:16<t.size;rw[if_pos d]at h;cases h;rw[if_neg d]at h;cases c:S.h
  .rw[c]at h;refine⟨a,rfl,?_⟩;by_cases e:20<=S.Ml.getD S.c 0;simp only[yH,if_false]at h;rw[if_pos e]at h;cases h;lia
  rw[c]at h;cases h
 rw[if_pos a]at h;exact absurd h a
def E0{l:List ϥ}(h:∀x∈l,Md.eA m.a m.seq x=false):PS.put l m=l++[m]:=by
 unfold PS.put;rw[if_neg];intro e
 let ⟨x,c,a⟩:=List.any_eq_true.1 e
 rw[h x c]at a;cases a
def PP.j(p:PP w F b S o){a:ϡ}(h:af w X 179 a):¬o.M b X:=p.a0 h (.inr (.inl rfl))
def FZ(p:PP w F b S o)(u:Wf S)(t:ϝ)(ht:t.size<=16)(hs:S.e.length<=900000)(B:S.Mf t=0->∀x∈S.o,Md.eA (S.Ma t).a (S.Ma t).seq x=false):Do 97 #[pT b 0,.string t] (J (S.Mf t)) w F b o (S.cast t):=by
 by_cases N:S.Mf t=0
 .have B:=B N
  let ⟨_,_,a5⟩:=vX N
  have V:=u.u t a5;have j:Wf (S.Ms (S.Ma t) 1):=(u.k u.num rfl rfl (by show S.Ml.getD S.c 0+1<=20;lia) 1).1;have P:S.cast t=S.L8.foldl (λT q=>T.MN q (S.Ma t)) (S.MV (S.Ma t)):=by unfold PS.cast;rw[if_pos N];rfl
  have a0:S.MV (S.Ma t)=({S.Ms (S.Ma t) 1 with o:=S.o++[S.Ma t]}:PS).M1:=by show ({S.Ms _ 1 with o:=PS.put _ _}:PS).M1=_;rw[show (S.Ms (S.Ma t) 1).o=S.o from rfl,E0 B]
  have a1:Wf ({S.Ms (S.Ma t) 1 with o:=S.o++[S.Ma t]}:PS):=⟨j.c,j.num,j.a,j.kn,λm hm=>by rcases yz.1 hm with hm|hm;exact u.ms m hm;rw[yu]at hm;subst hm;exact V,j.view,j.mem,j.sus,j.h,j.prom,j.vote,j.lead,j.left,j.t⟩
  have a6:Wf (S.MV (S.Ma t)):=a0▸a1.j;have E:S.L8.length<=6:=yr (gG _ S.n) u.c;have b5:(S.MV (S.Ma t)).e=S.e:=rfl;have a7:(S.MV (S.Ma t)).L8=S.L8:=rfl;rw[N,P];have c0:S.Ma t=⟨S.c,S.Ml.getD S.c 0+1,S.Ml.set S.c (S.Ml.getD S.c 0+1),t⟩:=rfl;have HN:∀w1,Ϟ w w1->ϖ 137 #[pT b 0,.string t] w1 λe r=>∃g a,ϱ e (aU (S.Ma t) (sT g S.n a))/\Ϟ w r/\eB r (λx=>w<=x) 3 1 (sT g S.n a) S.n (ints (S.Ma t).c):=λw1 A=>by refine(wD u.num u.c (p.c A).e (λq Z=>u.g.at Z) t ω).mono ?_;rintro e r⟨g,a,rfl,i,s⟩;exact⟨g,a,rfl,A.trans (s.mono A.size),i.d,λg' O=>yr A.size (i.c g' O)⟩
  generalize b7:S.Ma t=M at*;refine(rM b o.m S.n t M S.L8 E w (λ_=>False) (λw1=>Ϟ w w1)
   (λr g a=>Ϟ w r/\eB r (λx=>w<=x) 3 1 (sT g S.n a) S.n (ints M.c))
   (λX g a w4=>w<=X/\af w4 X 179 #[J M.a,J M.seq,sT g S.n a,.string M.b]/\∃y,To w F b o w4 (S.Ms M 1) {o with g:=y}/\aE w4 (({o with g:=y}:Pl).R F b) (sT g S.n a) M.c)
   (λX g a w6=>w<=X/\af w6 X 179 #[J M.a,J M.seq,sT g S.n a,.string M.b]/\∃z,To w F b o w6 {S.Ms M 1 with o:=S.o++[M]} z/\aE w6 (z.R F b) (sT g S.n a) M.c)
   (λX g a w7=>w<=X/\af w7 X 179 #[J M.a,J M.seq,sT g S.n a,.string M.b]/\∃z,To w F b o w7 (S.MV M) z/\aE w7 (z.R F b) (sT g S.n a) M.c)
   (λX g a ao k G=>w<=X/\af G X 179 #[J M.a,J M.seq,sT g S.n a,.string M.b]/\∃z,To w F b o G (aG (λT q=>T.MN q M) S.L8 (S.MV M) k) z/\aE G (z.R F b) (sT g S.n a) M.c/\∃vv,eB G (z.R F b) 3 1 vv S.L8.length (cz S.L8)/\∃c,vv=.slice ao S.L8.length c)
   (λw9=>∃z,To w F b o w9 (S.L8.foldl (λT q=>T.MN q M) (S.MV M)) z)
   ?_ ?_ ?_ ?_ ?_ ?_ ?_ ?_ ?_).mono ?_
  apply (qa p u t ht).m;rintro w1 A;rw[N];exact .inr (.inr ⟨rfl,A⟩);exact HN
  .rintro r g a⟨s,i⟩;have a2:Ϟ r (r.alloc (.cells #[J M.a,J M.seq,sT g S.n a,.string M.b] 179)):=Ϡ.alloc Ϫ _;have A:=s.trans (a2.mono s.size);have d:=af.d r r rfl 179 #[J M.a,J M.seq,sT g S.n a,.string M.b];have p3:=p.c A;apply (F6 p3 u V ⟨_,_,_,rfl⟩ 1).m;rintro w4⟨y,Q⟩;have b2:aE (r.alloc (.cells #[J M.a,J M.seq,sT g S.n a,.string M.b] 179)) (o.R F b) (sT g S.n a) M.c:=by rw[aE,V.t];exact⟨aj i.d λx hx=>a2.block x (i.k hx),λx hx=>p.g (i.c x hx)⟩
   exact⟨rfl,s.size,(Q.e.block _ d.f (p3.j d)).trans d,y,(p.d A).a Q,b2.f Q.d⟩
  .rintro X g a w4⟨C,d,y,Q,b4⟩w5 W;have h5:=Q.a (Q.c.d W);have a3:=b4.f (Q.c.d W).d;have l:=d.c W d.f
   let ⟨w6,hu,o6,L⟩:=h5.c.a5 (m:=M) B a3
   refine⟨h5.c.a.y 15,l,w6,hu,C,(L.e.block X l.f (h5.c.j l)).trans l,o6,h5.a L,a3.f L.d⟩
  rintro X g a w6⟨C,d,o6,L,b1⟩;rw[a0];apply (rT L.c a1).m;rintro w7⟨o7,D⟩;exact⟨rfl,C,(D.e.block X d.f (L.c.j d)).trans d,o7,L.a D,b1.f D.d⟩
  .rintro X g a w7⟨C,d,o7,D,b3⟩;have:=nm D.c a6;rw[a7]at this;apply this.mono;rintro e G⟨v,rfl,H,U⟩
   let ⟨ao,c,b6⟩:=bG H
   subst b6;exact⟨ao,c,rfl,C,d.c U d.f,o7,D.a (D.c.d U),b3.f (D.c.d U).d,_,wG (λx hx=>D.c.g hx) H,c,rfl⟩
  .rintro X g a ao k G⟨C,d,o8,h8,K,vv,i,c,rfl⟩;refine⟨d,λq Z=>?_⟩
   let ⟨b8,c',b0,Y⟩:=fN (w':=G) i.d λ_ _ _=>rfl
   injection b0 with e1 _ _;subst e1
   let ⟨g',O,a9⟩:=Y k q Z
   exact⟨g',O,a9⟩
  rintro X g a ao k G q⟨C,d,o8,h8,K,vv,i,c,rfl⟩Z;have a4:Sends (S.MV M) (aG (λT q=>T.MN q M) S.L8 (S.MV M) k) k:=fa (λT q=>Md.ak T _) _ k;have b9:k<6:=yg (ym.1 Z).1 E;apply (nU h8.c (a4.d a6) (by have h1:=a4.b;have h2:=congrArg List.length b5;lia) q M (aX K.d)).m;rintro w9⟨o9,I⟩;refine⟨rfl,C,(I.e.block X d.f (h8.c.j d)).trans d,o9,?_,K.f I.d,_,i.f I.d,c,rfl⟩;rw[jb Z];exact h8.a I;rintro X g a ao w9⟨C,d,o9,I,-⟩;rw[iH]at I;exact⟨o9,I⟩;rintro e w'(⟨-,h⟩|⟨rfl,h⟩);exact h.elim;exact⟨rfl,h⟩
 rw[(by unfold PS.cast;rw[if_neg N]:S.cast t=S)];refine(vz b t (S.Mf t) N (Q:=λw'=>Ϟ w w') (qa p u t ht)).m ?_;rintro w' A;exact⟨rfl,o,p.d A⟩
end
section
open Go.RowKit
open Go.Pm (Perm)
open Go.Cr (fam)
open Md (PS Grp Wf GW)
variable {w w' w1 w2:Δ}{gb pb:Nat}{bl:Nat->Nat}{Fp:Nat->ϑ}{Fn:ϑ}{G G1 G2:Grp}{nv:Θ}{FG:ϑ}{i:Nat}{k j:Nat}{x:bC}
def GQ.h(g:GQ w gb pb bl Fp Fn G nv)(o:i<G.n){f:FuncId}(q:fam f=true)(l:fam.leaf f=false)(args:Ϣ)(a:∀v∈args,∀d:Perm,v.pm d=v){v:Θ}(s:∀d:Perm,v.pm d=v){S':PS}(r:∀h b c m,PP h b c (G.b i) m->CH h->¬b 1->Do f (Value.pointer (some ⟨c,0,none⟩)::args).toArray v h b c m S'):ϖ f (Value.pointer (some ⟨bl i,0,none⟩)::args).toArray w λe p=>ϱ e v/\cW (Fp i) w p/\PK p (aY (Fp i) w) (bl i) S':=K2 q l args a s r (g.c i o) (g.q i o)
def GQ.m(g:GQ w gb pb bl Fp Fn G nv)(d:∀x,Wh gb pb G.n Fp Fn x->FG x)(e:i<G.n)(a:cW (Fp i) w w1){S:PS}(l:PK w1 (aY (Fp i) w) (bl i) S):GT w w1 FG gb (G.Nk i S):=
 let ⟨c,m,b⟩:=g.put e a l
 ⟨a.e λx _ h=>d x (.inr (.inr (.inr ⟨i,e,h⟩))),pb,bl,c,Fn,nv,m,λx f=>(b x f).imp (d x) id⟩
def GQ.v(g:GQ w gb pb bl Fp Fn G nv)(a:i<G.n)(b:Wf (G.b i)):(G.b i).o.length<=126:=by
 let ⟨o,p⟩:=g.c i a
 exact p.h.u b
def vM(g:GY w FG gb G):ϖ 41 #[pT gb 0] w λe a=>ϱ e (J G.a.length)/\a=w:=by
 let ⟨d,f,c,m,l,g,_⟩:=g
 go_enter func41,ntmps41;go_wp21;apply (ah (wC g.net)).m;rintro h rfl;go_wp21;go_ret;simp
def Gf(m:GW G)(B:GY w FG gb G)(b:i<G.n):ϖ 40 #[pT gb 0,J i] w λe E=>ϱ e (J (G.b i).MC)/\GT w E FG gb (G.tick i):=by
 let ⟨u,s,S,U,V,g,t⟩:=B
 have o:=m.a i b;have h:=m.snt i b;have r:=g.v b o;have d:=Md.Bq o.c;unfold Md.cS at d;rw[h]at d;have A:Hid (ϖ 71 #[.pointer (some ⟨s i,0,none⟩)] w λe q=>ϱ e (J (G.b i).MC)/\(ε q gb 0 (sT u G.n G.n)/\ε q u i (.pointer (some ⟨s i,0,none⟩)))/\ϖ 62 #[pT gb 0,.pointer (some ⟨s i,0,none⟩)] q λe z=>ϱ e ϳ/\GT w z FG gb (G.tick i)):=by refine(g.h b rfl rfl [] ς ς λY T X N p F D=>AB p o F ν).m ?_;rintro q⟨c,K⟩;exact⟨rfl,⟨g.a0 b c,g.y b c⟩,g.f t b c K (by have D:=m.net;have W:=m.lim;grind)⟩
 have R:=g.c0;have M:=g.b b;have H:0<=i:=ω;have C:i<G.n:=ω;go_enter func40,ntmps40;go_wp21;apply (ah (mu i _ _ g.c0 b)).m;rintro z rfl;go_wp21;apply A.m;rintro P⟨⟨L,Q⟩,a⟩;go_wp21;apply (ah a).m;rintro O v;go_wp21;go_ret;exact⟨rfl,(ah v)⟩
def Aj(m:GW G)(C:GY w FG gb G)(b:i<G.n)(t:ϝ)(E:t.size<=16)(f:(G.b i).Mf t=0->∀x∈(G.b i).o,Md.eA ((G.b i).Ma t).a ((G.b i).Ma t).seq x=false):ϖ 56 #[pT gb 0,J i,.string t] w λe H=>ϱ e (J ((G.b i).Mf t))/\GT w H FG gb (G.cast i t):=by
 let ⟨y,q,T,V,X,g,u⟩:=C
 have r:=m.a i b;have h:=m.snt i b;have d:=Md.Bp r.c t;unfold Md.cS at d;rw[h]at d;have s:Hid (ϖ 97 #[.pointer (some ⟨q i,0,none⟩),.string t] w λe o=>ϱ e (J ((G.b i).Mf t))/\(ε o gb 0 (sT y G.n G.n)/\ε o y i (.pointer (some ⟨q i,0,none⟩)))/\ϖ 62 #[pT gb 0,.pointer (some ⟨q i,0,none⟩)] o λe B=>ϱ e ϳ/\GT w B FG gb (G.cast i t)):=by refine(g.h b rfl rfl _ ς ς λw0 U Z O p W F=>FZ p r t E ν f).m ?_;rintro o⟨c,L⟩;exact⟨rfl,⟨g.a0 b c,g.y b c⟩,g.f u b c L (by have F:=m.net;have Y:=m.lim;grind)⟩
 have S:=g.c0;have N:=g.b b;have I:0<=i:=ω;have D:i<G.n:=ω;generalize (G.b i).Mf t=v at s|-;go_enter func56,ntmps56;go_wp21;apply (ah (mu i _ _ g.c0 b)).m;rintro B rfl;go_wp21;apply s.m;rintro Q⟨⟨M,R⟩,a⟩;go_wp21;apply (ah a).m;rintro P z;go_wp21;go_ret;exact⟨rfl,(ah z)⟩
def pQ(c:GW G)(A:GY w FG gb G)(b:i<G.n){q:Nat}(m:q<G.n):ϖ 32 #[pT gb 0,J i,J q] w λe C=>ϱ e (J (if q=i then 5 else (G.b i).MC))/\GT w C FG gb (G.suspect i q):=by
 let ⟨M,D,Q,S,U,g,o⟩:=A
 have a:=c.num i b;have h:=yg m c.b;have d:=ah λj y=>mu j _ _ g.c0 y;have l:Hid (ϖ 65 #[.pointer (some ⟨D i,0,none⟩),J q] w λe s=>ϱ e (J (if q=i then 5 else (G.b i).MC))/\GT w s FG gb (G.suspect i q)):=by refine(g.h b rfl rfl _ ς ς λX R W K p T P=>wX p (c.a i b) h).m ?_;rintro s⟨f,H⟩;rw[a];exact⟨rfl,g.m o b f H⟩
 have O:=g.c0;have I:=g.b b;have E:0<=i:=ω;have B:i<G.n:=ω;generalize (if q=i then 5 else (G.b i).MC)=v at l|-;go_enter func32,ntmps32;go_wp21;apply (d i (ah b)).m;rintro V rfl;go_wp21;apply (d q (ah m)).m;rintro N rfl;go_wp21;apply l.m;rintro L t;go_wp21;go_ret;exact⟨rfl,(ah t)⟩
def Et(l:GY w FG gb G)(a:i<G.n):ϖ 39 #[pT gb 0,J i] w λe o=>ϱ e (J (if (G.b i).f then 6 else 0))/\GT w o FG gb (G.crash i):=by
 let ⟨B,q,D,H,K,g,d⟩:=l
 have c:Hid (ϖ 70 #[.pointer (some ⟨q i,0,none⟩)] w λe f=>ϱ e (J (if (G.b i).f then 6 else 0))/\GT w f FG gb (G.crash i)):=by refine(g.h a rfl rfl [] ς ς λN F M y p I E=>Ek p).m ?_;rintro f⟨b,u⟩;exact⟨rfl,g.m d a b u⟩
 have C:=g.c0;have z:=g.b a;have s:0<=i:=ω;have m:i<G.n:=ω;generalize (if (G.b i).f=true then (6:Int) else 0)=v at c|-;go_enter func39,ntmps39;go_wp21;apply (ah (mu i _ _ g.c0 a)).m;rintro L rfl;go_wp21;apply c.m;rintro A h;go_wp21;go_ret;exact⟨rfl,(ah h)⟩
def GY.b(g:GQ w gb pb bl Fp Fn G nv)(e:∀x,Wh gb pb G.n Fp Fn x->FG x)(c:cW (λx=>Fn x\/x=gb) w w'){a:List bC}{b:Θ}(l:cY w' (aY Fn w) gb (sT pb G.n G.n) G.c a b):GT w w' FG gb {G with a:=a}:=by
 let ⟨d,o,m⟩:=g.l c l
 refine⟨c.e λx _ h=>e x ?_,pb,bl,Fp,d,b,o,λx f=>?_⟩;rcases h with h|h;exact .inr (.inr (.inl h));exact .inl h;exact(Wh.a m x f).imp (e x) id
def Gc(l:GY w FG gb G)(p:G.a.length<=1000000)(k:Nat)(x:bC)(n:G.a[k]?=some x):ϖ 80 #[pT gb 0,J k] w λe a=>ϱ e (J 0)/\GT w a FG gb (G.drop k):=by
 let ⟨r,u,t,y,s,g,d⟩:=l
 have f:Hid (Calls _ 73 _ w λe a=>ϱ e _/\GT w a FG gb _):=(qd g.net p k x n).mono λe a h=>⟨h.1,by
  let ⟨_,b,q,m⟩:=h
  exact GY.b g d b (m.d aY.c)⟩
 go_enter func80,ntmps80;go_wp21;apply f.m;rintro v c;go_wp21;go_ret;exact⟨rfl,(ah c).b (Ϡ.alloc Ϫ _)⟩
def F5(a:G.a[k]?=some x):G.copy k={G with a:=je G.c G.a x}:=by unfold Grp.copy;rw[a];rfl
def Gb(m:GY w FG gb G)(p:G.a.length<=1000000)(k:Nat)(x:bC)(f:G.a[k]?=some x):ϖ 82 #[pT gb 0,J k] w λe a=>ϱ e (J 0)/\GT w a FG gb (G.copy k):=by
 let ⟨r,u,t,y,s,g,d⟩:=m
 have l:Hid (Calls _ 125 _ w λe a=>ϱ e _/\GT w a FG gb (G.copy k)):=(zr g.net p k x f).mono λe a h=>⟨h.1,by
  let ⟨_,b,q,n⟩:=h
  rw[F5 f];exact GY.b g d b n⟩
 go_enter func82,ntmps82;go_wp21;apply l.m;rintro v c;go_wp21;go_ret;exact⟨rfl,(ah c)⟩
def x5(p:GY w FG gb G)(k:Nat)(x:bC)(r:G.a[k]?=some x)(i m:Nat)(q:i<x.2.size)(d:1<=m)(b:m<=255)(c:x.2.size<=1000000):ϖ 85 #[pT gb 0,J k,J i,J m] w λe a=>ϱ e (J 0)/\GT w a FG gb {G with a:=G.a.set k (x.1,cP x.2 i m)}:=by
 let ⟨u,y,v,z,A,g,l⟩:=p
 have o:Hid (Calls _ 127 _ w λe a=>ϱ e _/\GT w a FG gb _):=(qQ g.net k x r i m q d b c).mono λe a h=>⟨h.1,by
  let ⟨_,f,s⟩:=h
  exact GY.b g l (f.e λx _ h=>.inl h) (s.d aY.c)⟩
 go_enter func85,ntmps85;go_wp21;apply o.m;rintro B n;go_wp21;go_ret;exact⟨rfl,(ah n)⟩
def Eu(b:GY w FG gb G)(k:Nat)(x:bC)(d:G.a[k]?=some x):ϖ 96 #[pT gb 0,J k] w λe c=>ϱ e (.tuple #[.string x.2,J 0])/\c=w:=by
 let ⟨h,n,m,p,l,g,a⟩:=b
 go_enter func96,ntmps96;go_wp21;apply (ah (wB g.net k x d)).m;rintro o rfl;go_wp21;go_ret2;simp
def pH(a:G.a[k]?=some x)(b:x.1=(j:Int)):G.deliver k=((G.drop k).Nk j ((G.b j).Mn x.2.data.toList)).MB j:=by unfold Grp.deliver;rw[a];simp only[b,CM];rfl
def pP(r:GW G)(gx:GY w FG gb G)(k:Nat)(x:bC)(Q:G.a[k]?=some x)(V:x.1=(j:Int))(m:j<G.n)(D:x.2.size<=1000000):ϖ 42 #[pT gb 0,J k] w λe E=>ϱ e (J 0)/\GT w E FG gb (G.deliver k):=by
 let ⟨s,u,y,Fn,nv,g,K⟩:=gx
 let ⟨x1,d⟩:=x
 simp only at V D;subst V;have M:=r.a j m;have z:=r.snt j m;have t:=Md.nE M.c d.data.toList;unfold Md.cS at t;rw[z]at t;have T:Hid (ϖ 73 #[pT gb 1,J k] w λe E=>ϱ e (.tuple #[.agg #[J j,.string d],J 0])/\cW FG w E/\∃a b,GQ E gb s u y a (G.drop k) b/\∀x,Wh gb s G.n y a x->aY FG w x):=(qd g.net (by have h1:=r.net;have h2:=r.lim;lia:G.a.length<=1000000) k _ Q).mono λe E h=>⟨h.1,by
  let ⟨_,q,b,R⟩:=h
  let ⟨a,g',hF⟩:=g.l q (R.d aY.c)
  exact⟨(GY.b g K q (R.d aY.c)).1,a,b,g',λx hx=>(Wh.a hF x hx).imp (K x) id⟩⟩
 have L:Hid (∀F,(cW FG w F/\∃a b,GQ F gb s u y a (G.drop k) b/\∀x,Wh gb s G.n y a x->aY FG w x)->∀v,Ϟ F v->ε v gb 0 (sT s G.n G.n)/\ε v s j (.pointer (some ⟨u j,0,none⟩))/\ϖ 74 #[.pointer (some ⟨u j,0,none⟩),.string d] v λe c=>ϱ e ϳ/\ϖ 62 #[pT gb 0,.pointer (some ⟨u j,0,none⟩)] c λe P=>ϱ e ϳ/\GT w P FG gb (G.deliver k)):=λF⟨q,a,b,g1,H⟩v S=>by have C:=g1.o S;refine⟨C.c0,C.b m,?_⟩;refine(C.h (i:=j) m (f:=74) rfl rfl [.string d] ς (v:=.tuple #[]) ς (S':=(G.b j).Mn d.data.toList) λw0 F0 b0 o0 p hT h1=>rI (S:=G.b j) p M d.data.toList (by have:d.data.toList.length=d.size:=rfl;lia) ν).m ?_;rintro c⟨B,O⟩;refine⟨rfl,(C.f H (i:=j) m B O ?_).mono ?_⟩;have h1:(G.drop k).a.length<=G.a.length:=List.length_eraseIdx_le _ _;have h2:=r.net;have h3:=r.lim;grind;rintro e P⟨rfl,h⟩;rw[pH Q rfl];exact⟨rfl,GT.a (G1:=G.drop k) ⟨q.c (cW.d S),s,u,y,a,b,C,H⟩ h⟩
 generalize G.deliver k=Z at L|-;go_enter func42,ntmps42;go_wp21;apply T.m;rintro c A;have f:=L c A;have I:Hid (Ϟ c (c.alloc (.cells #[J j,.string d] 111))):=Ϡ.alloc Ϫ _
 let ⟨c0,p0,_⟩:=f _ I
 have o:Hid _:=f;have a1:0<=j:=ω;have a0:j<G.n:=ω;have U:(c.alloc (.cells #[J j,.string d] 111)).cell? (aT c 0)=some (J j):=ς;have Y:(c.alloc (.cells #[J j,.string d] 111)).cell? (aT c 1)=some (.string d):=ς;go_wp21;generalize hX:c.heap.size=X at U Y I o|-;generalize (c.alloc _)=v at U Y c0 p0 I|-;go_quiet (fail);go_wp21;apply (o _ (below_drewN I _)).2.2.m;rintro P l;go_wp21;apply (ah l).m;rintro w4 A;go_wp21;go_ret;exact⟨rfl,(ah A)⟩
open Go.Cr (Tabs)
open Md (Book)
variable {n win lim:Nat}
def rS(k:GW G)(l:GY w FG gb G)(b:i<G.n):ϖ 35 #[pT gb 0,J i] w λe a=>∃v,ϱ e (.tuple #[v,J 0])/\a.ownsRow w 64 6 v (G.b i).j.length (az (G.b i).j)/\Ϟ w a:=by
 obtain⟨u,q,z,A,B,g,j⟩:=l;have c:Hid (ϖ 66 #[.pointer (some ⟨q i,0,none⟩)] w λe a=>∃d,ϱ e d/\a.ownsRow w 64 6 d (G.b i).j.length (az (G.b i).j)/\Ϟ w a):=by obtain⟨o,p⟩:=g.c i b;exact BW p.a (k.a i b).a7
 have y:=g.c0;have t:=g.b b;have r:0<=i:=ω;have m:i<G.n:=ω;go_enter func35,ntmps35;go_wp21;refine(ah (mu i _ _ g.c0 b)).out.m ?_;rintro C rfl;go_wp21;refine c.out.mono ?_;rintro e x⟨v,rfl,f⟩;have s:Hid _:=f;go_wp21;go_ret2;exact⟨v,rfl,s⟩
def IL{p:Nat}(a:n<=6):cZ p n win=zc (PS.Ni p n win) (sN) (sN) none:=by unfold cZ zc PS.Ni;rw[(vN n a).2];rfl
def IM{p b:Nat}{F:ϑ}(k:n<=6)(h:PX w F b (cZ p n win) (bB n).b (bB n).c (bB n).a []):PZ w F b (PS.Ni p n win):=by
 obtain⟨l,r,o,f,c,m,a,g,j,q⟩:=h;have d:l=[]:=by cases l with
  |nil=>rfl
  |cons x l=>cases r
 subst d;rw[IL k]at q;refine⟨⟨[],o,f,c,m,a,g,j,sN,none,sN,[],sN,[]⟩,q,rfl,λx e=>?_,⟨World.ownsRow_nil _ _ _ _,nofun⟩,trivial,⟨rfl,World.ownsRow_nil _ _ _ _,nofun⟩⟩;rcases e with h|⟨h,-⟩|h<;>cases h
def IK{a:ϑ}(k:n<=6)(g:GX w a gb n win lim (λ_=>bB n) []):GY w a gb (Grp.Nm n win lim):=by obtain⟨e,f,d,j,h,g,b⟩:=g;exact⟨e,f,d,j,h,⟨g.d,g.f,λi c=>IM k (g.e i c),g.dis,g.c,g.b,g.p,g.k,g.g,g.h,g.l,g.o⟩,b⟩
def GY.e(g:GY w FG gb G):GY w (λx=>FG x/\x<w) gb G:=by obtain⟨d,e,c,h,f,g,b⟩:=g;exact⟨d,e,c,h,f,g,λx a=>⟨b x a,(g.z a).2⟩⟩
def BZ(n win lim:Nat):Grp:=(Grp.Nm n win lim).cast 0 Md.mZ
def Aq(c:1<=n)(a:1<=win):(PS.Ni 0 n win).Mf Md.mZ=0:=by
 have b:(PS.Ni 0 n win).Ml.getD (PS.Ni 0 n win).c 0=0:=by
  match n,c with
  |_+1,_=>rfl
 unfold PS.Mf;rw[b];have:¬(PS.Ni 0 n win).r<=((PS.Ni 0 n win).o.filter λm=>m.a==((PS.Ni 0 n win).c:Int)).length:=by show ¬win<=0;omega
 rw[if_neg this];rfl
def DZ{S:PS}{t:ϝ}(h:S.Mf t=0):(S.cast t).j=S.j++[⟨1,S.b,S.c,S.Ml.getD S.c 0+1,0,t⟩]:=by unfold PS.cast;rw[if_pos h];have:=Md.bK (λ(T:PS)q=>T.MN q (S.Ma t)) 1 (λT q=>Md.ak T _) (S.MV (S.Ma t)).L8 (S.MV (S.Ma t));rw[this.e];rfl
def Ew(b:1<=n)(a:1<=win):((BZ n win lim).b 0).j=[⟨1,0,0,1,0,Md.mZ⟩]:=by
 show ((PS.Ni 0 n win).cast _).j=_;rw[DZ (Aq b a)];show [(⟨1,0,0,(PS.Ni 0 n win).Ml.getD 0 0+1,0,_⟩:Ev)]=_;have c:(PS.Ni 0 n win).Ml.getD 0 0=0:=by
  match n,b with
  |_+1,_=>rfl
 rw[c];rfl
def II(a:n<=6)(c:lim<=4000):GW (Grp.Nm n win lim):=⟨a,λ_ b=>Md.DK a b,λ_ _=>rfl,λ_ _=>rfl,λ_ _=>rfl,c,oI _⟩
def CC(w:Δ)(pp gb n win lim:Nat)(cr:Book):Prop:=af w pp 44 #[pT gb 0,J n,J win,J lim,.bool (cr 0),.bool (cr 1),.bool (cr 2),.bool (cr 3),.bool (cr 4),.bool (cr 5),.bool true]
def EX(w:Δ)(hT:Tabs w)(I:7<=w.heap.size)(o:1<=n/\n<=6)(j:1<=win/\win<=8)(f:1<=lim/\lim<=4000):ϖ 25 #[.agg #[J n,J win,J lim],.bool true] w λe b=>∃M W,ϱ e (pT M 0)/\Ϟ w b/\CC b M W n win lim (λ_=>false)/\w<=M/\GY b (λx=>w<=x/\x<M) W (BZ n win lim):=by
 have Y:Hid (∀b,Ϟ w b->ϖ 38 #[.agg #[J n,J win,J lim]] b λe a=>∃g,ϱ e (.tuple #[pT g 0,J 0])/\GY a (λx=>b<=x) g (Grp.Nm n win lim)/\Ϟ b a):=λb Q=>(Ge n win lim b ⟨o,j,f⟩ (bR hT λx N=>Q.block x ω) (yr I Q.size)).mono λe a h=>by obtain⟨g,S,h2,h3⟩:=h;exact⟨g,S,IK o.2 h2,h3⟩
 have Z:Hid (∀b g A,GY b A g (Grp.Nm n win lim)->ϖ 56 #[pT g 0,J 0,.string ⟨#[102,105,114,115,116]⟩] b λe a=>ϱ e (J 0)/\GT b a A g (BZ n win lim)):=λb g A z=>by have:=Aj (i:=0) (II (win:=win) o.2 f.2) z (by show 0<n;omega) Md.mZ θ λ_=>nofun;have e:((Grp.Nm n win lim).b 0).Mf Md.mZ=0:=Aq o.1 j.1;rw[e]at this;exact this
 have X:Hid (∀b g A,GY b A g (BZ n win lim)->ϖ 35 #[pT g 0,J 0] b λe a=>Ϟ b a/\∃t m,ϱ e (.tuple #[sT t 1 m,J 0])/\ε a t 0 (J 1)/\ε a t 3 (J 1)/\ε a t 5 (.string ⟨#[102,105,114,115,116]⟩)):=λb g A z=>by have gw:GW (BZ n win lim):=(Md.dY.start (win:=win) o f.2).a.b;refine(rS gw z (i:=0) (by show 0<n;omega)).mono ?_;rintro e a⟨v,rfl,V,Q⟩;rw[Ew o.1 j.1]at V;obtain⟨t,m,rfl,c0,-,-,c3,-,U⟩:=jU V (k:=0) rfl;exact⟨Q,t,m,rfl,c0,c3,U⟩
 have D:Hid (af (w.alloc (.cells #[J n,J win,J lim] 23)) w 23 #[J n,J win,J lim]):=af.d w w rfl 23 _;have u:Hid (Ϟ w (w.alloc (.cells #[J n,J win,J lim] 23))):=Ϡ.alloc Ϫ _;have q:Hid ((w.alloc (.cells #[J n,J win,J lim] 23))=w.heap.size+1):=by simp[Hid]
 go_enter func25,ntmps25;have O:=D.out.z 0;have L:=D.out.z 1;have P:=D.out.z 2;go_wp21;generalize w.alloc _=w0 at D u q|-;refine(Y.out w0 u).mono ?_;rintro _ w1⟨g,rfl,z,E⟩;have r:=ah E;go_wp21;refine(ah (Z.out w1 g _ (ah z.e))).out.m ?_;rintro w2 c;have B:=ah c.2;have K:=ah (r.out.trans ⟨c.1.os,c.1.tape,c.1.output,c.1.size,λk hk=>c.1.block k (yg hk r.out.size) λh=>ω⟩);go_wp21;refine(ah (X.out w2 g _ B)).out.mono ?_;rintro _ y⟨p,t,m,rfl,c0,c3,U⟩;have s:=ah (K.out.trans (p.mono K.out.size));have l:=D.out.c s (by rw[q.out];omega);have O:=l.z 0;have L:=l.z 1;have P:=l.z 2;go_wp21;go_ret;have a1:=s.out.size;have a0:=q.out;have H:Ϟ y (y.alloc (.cells #[pT g 0,J n,J win,J lim,.bool false,.bool false,.bool false,.bool false,.bool false,.bool false,.bool true] 44)):=Ϡ.alloc Ϫ _;refine⟨y,g,rfl,((u.out.trans (s.out.mono ω)).trans (H.mono ω)),af.d y y rfl 44 _,ω,((ah (B.out.a p)).out.e.a H).c λx N=>?_⟩;rcases N.1 with S|S;exact⟨ω,N.2⟩;have:=r.out.size;exact⟨ω,N.2⟩
variable {f:Codec.Frame}{s:ϝ}
theorem wI(a:Codec.dg f=true):1<=(lF f).2.size/\(lF f).2.size<=1000000:=by
 have c:=nN a;have b:(lF f).2.size=(Codec.gT f).length+4:=by show (Codec.im f).toArray.size=_;simp only[yJ,Codec.im,yC,Codec.br]
 lia
def GP(b c:UInt8)(d:c≠0):b^^^c≠b:=λh=>by have a:=congrArg (λx=>b^^^x) h;simp only[<-UInt8.xor_assoc,UInt8.xor_self,UInt8.zero_xor]at a;grind
theorem GH{i m:Nat}(e:i<(lF f).2.size)(b:1<=m)(d:m<=255):Codec.bM (cP (lF f).2 i m).data.toList=false:=by
 have a:i<(Codec.im f).length:=by
  have:(lF f).2.size=(Codec.im f).length:=by show (Codec.im f).toArray.size=_;simp
  lia
 rw[(by simp[cP,lF]:(cP (lF f).2 i m).data.toList=(Codec.im f).set i ((Codec.im f).getD i 0^^^UInt8.ofNat m)),List.set_eq_take_append_cons_drop,if_pos a];refine Codec.Ib f _ _ _ _ ?_ (GP _ _ λh=>?_)
 .simp_all
 have:=congrArg UInt8.toNat h;simp at this;lia
structure Hm(R:Grp->Prop):Prop where
 gw:∀{G},R G->GW G
 par:∀{G x}{k:Nat},R G->G.a[k]?=some x->∃f,Codec.dg f=true/\x=lF f/\∃j:Nat,j<G.n/\x.1=(j:Int)
 deliver:∀{G}(k:Nat),R G->R (G.deliver k)
 drop:∀{G}(k:Nat),R G->R (G.drop k)
 copy:∀{G}(k:Nat),R G->R (G.copy k)
def xW{a:Type}(x:a):∀(l:List a)(k:Nat),(l.set k x).eraseIdx k=l.eraseIdx k
 |[],k=>ς
 |_::l,0=>rfl
 |y::l,k+1=>ν
theorem E8(c:GW G){k j:Nat}{x:bC}(m:G.a[k]?=some x)(d:x.1=(j:Int))(a:j<G.n)(e:Codec.bM s.data.toList=false):({G with a:=G.a.set k (x.1,s)}:Grp).deliver k=G.drop k:=by
 have l:({G with a:=G.a.set k (x.1,s)}).a[k]?=some (x.1,s):=by show (G.a.set k _)[k]?=_;rw[LL (ym.1 m).1]
 rw[pH l d];have i:(({G with a:=G.a.set k (x.1,s)}).b j).Mn _=G.b j:=Md.Bt e;rw[i];have b:=c.snt j a;have h:({G.b j with e:=[]})=G.b j:=by rw[<-b]
 unfold Grp.MB Grp.Nk Grp.drop;simp only[if_true,b,h,xW,Cx];refine congrArg (λg=>({n:=G.n,d:=G.d,c:=G.c,b:=g,a:=G.a.eraseIdx k}:Grp)) ?_;grind
theorem xe(s:ϝ):∀(n i:Nat)(r:Ϭ),s.size-i=n->(ByteArray.toList.loop s i r).length=n+r.length:=by
 intro n;induction n with
 |zero=>
  intro i r h;unfold ByteArray.toList.loop;grind
 |succ n a=>
  intro i r h;unfold ByteArray.toList.loop;grind
theorem ub(h:1<=s.size):s.toList.isEmpty=false:=by have a:s.toList.length=s.size+0:=xe s _ 0 [] ω;grind
def Ci{R:Grp->Prop}(H:Hm R){cr:Book}(pp:Nat)(a9:CC w pp gb n win lim cr)(d3:¬FG pp)(gx:GY w FG gb G)(A:R G)(O a b c:Int)(t:ϝ)(ha:j7 a)(hb:j7 b)(hc:j7 c):ϖ 57 #[pT pp 0,.agg #[J O,J a,J b,J c,.string t]] w λe d=>ϱ e (.bool true)/\∃l,GT w d FG gb l/\R l:=by
 obtain⟨v,a2,b9,gc⟩:∃v:ϑ,(∀x,v x->FG x)/\(∀x,v x->x<w)/\GY w v gb G:=⟨_,λx h=>h.1,λx h=>h.2,gx.e⟩;have hX:af (w.alloc (.cells #[J O,J a,J b,J c,.string t] 51)) w 51 #[J O,J a,J b,J c,.string t]:=af.d w _ rfl 51 _;have S:Ϟ w (w.alloc (.cells #[J O,J a,J b,J c,.string t] 51)):=Ϡ.alloc Ϫ _;have c6:(w.alloc (.cells #[J O,J a,J b,J c,.string t] 51))=w.heap.size+1:=ς;have b3:=af.f a9;have P:=af.c a9 S b3;have a7:=gc.a S;generalize e5:w.alloc _=B at hX S c6 P a7;have p:Hid (GT B B v gb G/\R G):=⟨⟨cW.j _ _,a7.c aY.c⟩,A⟩;have C:Hid (∀d,cW v B d->ε d w 0 (J O)/\ε d w 1 (J a)/\ε d w 2 (J b)/\ε d w 3 (J c)/\ε d pp 0 (pT gb 0)):=λd h=>by have I:af d w 51 _:=(h.block _ ω λe=>ν).trans hX;have e2:CC d pp gb n win lim cr:=(h.block pp ω λe=>d3 (a2 _ e)).trans P;exact⟨I.y 0,I.y 1,I.y 2,I.y 3,af.a e2 0 _ rfl⟩
 have E:∀{G},R G->G.a.length<=4000:=λh=>yr (H.gw h).net (H.gw h).lim;have b1:Hid (∀d l,GT B d v gb l->ϖ 41 #[pT gb 0] d λe g=>ϱ e (J l.a.length)/\g=d):=λd l h=>vM h.2;have a8:Hid (∀d l(k:Nat)x,GT B d v gb l->R l->l.a[k]?=some x->ϖ 42 #[pT gb 0,J k] d λe g=>ϱ e (J 0)/\∃o,GT B g v gb o/\R o):=λd l k x h A N=>by obtain⟨f,hf,rfl,j,a0,hd⟩:=H.par A N;refine(pP (H.gw A) h.2 k _ N hd a0 (wI hf).2).m ?_;rintro g z;exact⟨rfl,_,h.a z,H.deliver k A⟩
 have b8:Hid (∀d l(k:Nat)x,GT B d v gb l->R l->l.a[k]?=some x->ϖ 80 #[pT gb 0,J k] d λe g=>ϱ e (J 0)/\∃o,GT B g v gb o/\R o):=λd l k x h A N=>by refine(Gc h.2 (yr (E A) ω) k x N).m ?_;rintro g z;exact⟨rfl,_,h.a z,H.drop k A⟩
 have c9:Hid (∀d l(k:Nat)x,GT B d v gb l->R l->l.a[k]?=some x->ϖ 82 #[pT gb 0,J k] d λe g=>ϱ e (J 0)/\∃o,GT B g v gb o/\R o):=λd l k x h A N=>by refine(Gb h.2 (yr (E A) ω) k x N).m ?_;rintro g z;exact⟨rfl,_,h.a z,H.copy k A⟩
 have c2:Hid (∀d l(k:Nat)x,GT B d v gb l->l.a[k]?=some x->ϖ 96 #[pT gb 0,J k] d λe g=>ϱ e (.tuple #[.string x.2,J 0])/\g=d):=λd l k x h N=>Eu h.2 k x N;have c5:Hid (∀d l(k i m:Nat)x,GT B d v gb l->R l->l.a[k]?=some x->i<x.2.size->1<=m->m<=255->ϖ 85 #[pT gb 0,J k,J i,J m] d λe g=>ϱ e (J 0)/\cW v B g/\ϖ 42 #[pT gb 0,J k] g λe M=>ϱ e (J 0)/\∃o,GT B M v gb o/\R o):=λd l k i m x h A N hi b0 Y=>by
  obtain⟨f,hf,rfl,j,a0,hd⟩:=H.par A N;have gw:=H.gw A;refine(x5 h.2 k _ N i m hi b0 Y (wI hf).2).m ?_;rintro g z;have h2:=h.a z;refine⟨rfl,h2.1,?_⟩;have e8:GW ({l with a:=l.a.set k ((lF f).1,cP (lF f).2 i m)}:Grp):=⟨gw.b,gw.a,gw.num,gw.n,gw.snt,gw.lim,by show (l.a.set k _).length<=_;rw[Ko];exact gw.net⟩;have f0:(cP (lF f).2 i m).size<=1000000:=by
   have h1:=(wI hf).2;have h2:(cP (lF f).2 i m).size=(lF f).2.size:=by show (cP (lF f).2 i m).data.size=(lF f).2.data.size;simp[cP]
   omega
  refine(pP e8 h2.2 k ((lF f).1,cP (lF f).2 i m) ν hd a0 f0).m ?_;rintro M a4;rw[E8 gw N hd a0 (GH hi b0 Y)]at a4;exact⟨rfl,_,h2.a a4,H.drop k A⟩
 have e9:Hid (∀l x(k:Nat),R l->l.a[k]?=some x->1<=x.2.size/\x.2.size<=1000000):=λl x k A L=>by obtain⟨f,hf,rfl,-⟩:=H.par A L;exact wI hf
 have r:Hid (∀d,(∃o,GT B d v gb o/\R o)->∃l,GT w d FG gb l/\R l):=λd⟨o,h,A⟩=>by refine⟨o,⟨(cW.d S).c (h.1.e λx _ L=>.inl (a2 x L)),h.2.c λx L=>?_⟩,A⟩;rcases L with L|L;exact .inl (a2 x L);exact .inr ω
 have b5:=ah (E A);have d1:=fO a;subst e5;obtain⟨e0,I,e2,e3,e4⟩:=C.out _ (cW.j _ _);go_enter func57,ntmps57;go_wp2_with fail;generalize f6:w.heap.size=X at C|-;generalize w.alloc _=B at p C b1 a8 b8 c9 c2 c5 r|-;refine(b1.out B G p.out.1).m ?_;rintro w2 rfl;obtain⟨e0,I,e2,e3,e4⟩:=C.out _ (cW.j _ _);generalize hm:G.a.length=m at b5|-;have HM:=ah hm;by_cases f3:m=0
 .subst f3;go_wp2_with fail;go_ret;exact⟨rfl,r.out _ ⟨_,p⟩⟩
 have b0:¬m=0:=ω;have U:Hid (ϖ 34 _ _ _):=d1 m w2 ha ω (by have:=b5.out;omega);go_wp2_with fail;refine U.out.m ?_;rintro M rfl;have c7:bw a m<m:=cM a ω;obtain⟨x,L⟩:∃x,G.a[bw a m]?=some x:=⟨_,yh (by rw[HM.out];exact c7)⟩;generalize bw a m=k at c7 L|-;have HX:=ah L;by_cases h5:O=5
 .subst h5;have D:Hid (ϖ 42 _ _ _):=a8.out M G k x p.out.1 p.out.2 HX;go_wp2_with fail;refine D.out.m ?_;rintro W V;have HR:Hid _:=r.out _ V;go_wp2_with fail;go_ret;exact⟨rfl,HR⟩
 by_cases h6:O=6
 .subst h6;have D:Hid (ϖ 80 _ _ _):=b8.out M G k x p.out.1 p.out.2 HX;go_wp2_with fail;refine D.out.m ?_;rintro W V;have HR:Hid _:=r.out _ V;go_wp2_with fail;go_ret;exact⟨rfl,HR⟩
 by_cases h7:O=7
 .subst h7;have D:Hid (ϖ 82 _ _ _):=c9.out M G k x p.out.1 p.out.2 HX;go_wp2_with fail;refine D.out.m ?_;rintro W V;have HR:Hid _:=r.out _ V;go_wp2_with fail;go_ret;exact⟨rfl,HR⟩
 by_cases h8:O=8
 .subst h8;obtain⟨x1,x2⟩:=x;have a1:=ah (e9.out G _ k p.out.2 HX);have D:Hid (ϖ 96 _ _ _):=c2.out M G k (x1,x2) p.out.1 HX;go_wp2_with fail;refine D.out.m ?_;rintro W rfl;have f7:=ub a1.out.1;go_upto_region 17 with fail;have a6:=cM b a1.out.1;have f2:bw c 255<255:=cM c ω;have c1:Hid (∀d,ϖ 34 #[J b,J x2.size] d λe g=>ϱ e (J (bw b x2.size))/\g=d):=λd=>(fO b) x2.size d hb a1.out.1 a1.out.2;have b6:Hid (∀d,ϖ 34 #[J c,J 255] d λe g=>ϱ e (J (bw c 255))/\g=d):=λd=>(fO c) 255 d hc ω ω;generalize bw b x2.size=pi at a6 c1;generalize bw c 255=pm at f2 b6;have f4:IntKind.i64.wrap (1+(pm:Int))=1+(pm:Int):=by rw[IntKind.wrap_i64];omega
  have c4:Hid (∀d,d=W.drew->ϖ 85 #[pT gb 0,J k,J pi,J (1+pm)] d λe g=>ϱ e (J 0)/\cW v W g/\ϖ 42 #[pT gb 0,J k] g λe M=>ϱ e (J 0)/\∃o,GT W M v gb o/\R o):=λd e=>by subst e;have h1:GT W W.drew v gb G:=⟨⟨rfl,rfl,rfl,Ϫ,λ_ _ _=>rfl⟩,p.out.1.2.a Ϡ.drew⟩;have:=c5.out W.drew G k pi (1+pm) (x1,x2) h1 p.out.2 HX a6 ω ω;rw[show ((1+pm:Nat):Int)=1+(pm:Int) by omega]at this;exact this
  have c0:Hid (∀d,cW v W d->ε d X 2 (J b)/\ε d X 3 (J c)/\ε d pp 0 (pT gb 0)):=λd h=>(C.out d h).2.2;refine wp_region_held_drew (S:=λd=>ε d X 2 (J b)/\ε d X 3 (J c)/\ε d pp 0 (pT gb 0)) rfl (c0.out _ ⟨rfl,rfl,rfl,Ϫ,λ_ _ _=>rfl⟩) λu=>?_;(iterate 9 refine ψ ?_);apply wk 10;apply wk 11;refine we 9 λK hK=>?_;go_simp;refine(c1.out _).m ?_;rintro w2 rfl;go_wp2_with fail;refine hK.out _ _ u λu=>?_;refine we 12 λK hK=>?_;go_simp;refine(b6.out _).m ?_;rintro w2 rfl;go_wp2_with fail;refine hK.out _ _ u λu=>?_;apply wk 13;refine we 14 λK hK=>?_;go_simp;refine(c4.out _ rfl).m ?_;rintro w5⟨a5,T⟩;have Q:Hid (ϖ 42 _ _ _):=T;have c3:Hid _:=(c0.out _ a5);go_wp2_with fail;refine hK.out _ _ c3 λu=>?_;apply wk 15;refine wpAnyH_done κ ?_ _;have e4:=c3.out.2.2;go_wp2_with fail;refine Q.out.m ?_;rintro w6 V;have HR:Hid _:=r.out _ V;go_wp2_with fail;go_ret;exact⟨rfl,HR⟩
 by_cases h9:O=9
 .subst h9;have U:Hid (∀d,ϖ 34 #[J a,J 60] d λe g=>ϱ e (J (bw a 60))/\g=d):=λd=>d1 60 d ha ω ω;have d2:bw a 60<60:=cM a ω;generalize bw a 60=q at U d2;go_wp2_with fail;go_loopw [5,7,10] (λnv ev i wr=>∃(j:Nat)(l:Grp)(m':Nat),j<=60/\i=J j/\nv=J m'/\l.a.length=m'/\ev=J 0/\GT M wr v gb l/\R l) λ_ _ i _=>100-(intOf i).toNat
  case atStart=>exact⟨0,G,m,ω,rfl,rfl,HM,rfl,p⟩
  case round=>
   obtain⟨j,l,m',A,rfl,rfl,c8,rfl,z,b2⟩:=hrel;have Z:Hid (GT M wr v gb l/\R l):=⟨z,b2⟩;obtain⟨e0,I,e2,e3,e4⟩:=C.out _ z.1;go_wp2_with fail;refine(U.out wr).m ?_;rintro w5 rfl;by_cases f5:j<=q
   .have d4:(j:Int)<=(q:Int):=ω;by_cases Y:0<m'
    .have d5:(0:Int)<(m':Int):=ω;obtain⟨y,hy⟩:∃y,l.a[0]?=some y:=⟨_,yh (by rw[(ah c8).out];exact Y)⟩;have D:Hid (ϖ 42 _ _ _):=a8.out w5 l 0 y Z.out.1 Z.out.2 hy;go_wp2_with fail;refine D.out.m ?_;rintro w6⟨G6,F,b4⟩;have d8:Hid (GT M w6 v gb G6/\R G6):=⟨F,b4⟩;have b7:Hid (ϖ 41 _ _ _):=b1.out w6 G6 F;obtain⟨e0,I,e2,e3,e4⟩:=C.out _ F.1;go_wp2_with fail;refine b7.out.m ?_;rintro w7 rfl;generalize d0:G6.a.length=m6;go_wp2_with fail;go_roundw
     case rel=>exact⟨j+1,G6,m6,ω,by go_num,rfl,(ah d0),rfl,d8⟩
     case measure=>simp[intOf];omega
    have d5:¬(0:Int)<(m':Int):=ω;go_wp2_with fail;go_ret;exact⟨rfl,r.out _ ⟨_,Z⟩⟩
   have d4:¬(j:Int)<=(q:Int):=ω;go_wp2_with fail;go_ret;exact⟨rfl,r.out _ ⟨_,Z⟩⟩
 go_wp2_with fail;go_ret;exact⟨rfl,r.out _ ⟨_,p⟩⟩
open Go.ChangeMaps (setBlock)
variable {F:ϑ}{b:Nat}{h:Hd}{kn:List (Υ)}{l:aL}{evs:List Ev}{snt:List bC}{kb mb:Nat}{rbs:Ϙ}{es:Array MapEntry}{clk:Nat}{ev sv:Θ}
def F8{i n:Nat}{H N O:Bool}{L y t:Int}(e1:h.a=i)(T:h.n=n)(e3:h.i=H)(e4:h.out=N)(e5:h.h=O)(e6:h.d=L)(e7:h.b=y)(e8:h.g=t)(hi:i<n)(hn:n<=6)(p:PA w F b h kn l evs snt kb mb rbs es clk ev sv):ϖ 75 #[pT b 0] w λe a=>∃g f,ϱ e (.agg #[.bool (!H),.bool N,.bool O,J L,J y,J t,J l.length,sT g n f])/\a.ownsRow w.heap.size 3 1 (sT g n f) n (ints (kn.getD i []))/\Below w.heap.size w a:=by
 obtain⟨r,hr,I,E,-⟩:=p.m (by rw[T];exact hi);rw[T]at E;have C:=E;have HX:Hid (∀a,Below w.heap.size w a->ϖ 119 #[pT b 0] a λe B=>ϱ e (sT r n n)/\Below a.heap.size a B/\B.heap=a.heap):=λa hb=>by have:=iM (p.j hb) (by rw[e1];exact hr);rw[T]at this;exact this
 have a0:=ah (λa P=>by have:=tF r n (kn.getD i []) a (I.c P I.f) (by omega) (by omega);rw[C]at this;exact this)
 have s:Hid (∀a,Below w.heap.size w a->ε a b 3 (.bool H)/\ε a b 4 (.bool N)/\ε a b 5 (.bool O)/\ε a b 6 (J L)/\ε a b 7 (J y)/\ε a b 8 (J t)/\ε a b 15 (.map (some mb))/\a.heap[mb]?=some (.map es clk)):=λa P=>by have d:=(p.j P).a;rw[<-e3,<-e4,<-e5,<-e6,<-e7,<-e8];exact⟨d.a 3 _ rfl,d.a 4 _ rfl,d.a 5 _ rfl,d.a 6 _ rfl,d.a 7 _ rfl,d.a 8 _ rfl,d.a 15 _ rfl,(p.j P).map⟩
 have a1:=λa h=>by have:=run_len_map (P:=prog) a 156 3 mb es clk (by kernel_rfl) h;rw[p.o.a]at this;exact this
 go_enter func75,ntmps75;go_upto_region 1 with fail;refine gl.b (λa=>a.cell? _=some _/\a.cell? _=some _/\a.cell? _=some _/\a.cell? _=some _/\a.cell? _=some _/\a.cell? _=some _/\a.cell? _=some _/\a.heap[mb]?=some _) 34 (by kernel_rfl) (s.out _ ((Ϡ.alloc Ϫ _).drew)) λc=>?_;(iterate 31 refine χ ?_);refine te 31 λK m=>?_;go_simp;refine(HX.out _ ((Ϡ.alloc Ϫ _).drew)).mono ?_;rintro e w1⟨rfl,k,-⟩;have j:=(((yi _ w).alloc Ϫ _).drew).trans (k.mono (by simp));go_wp21;refine m.out _ _ (λ_=>s.out _ j) λ_=>?_;clear m K c;have c:=s.out _ j;try simp only[pU]
 refine te 32 λK m=>?_;go_simp;refine(a0.out _ j).mono ?_;rintro e w2⟨g,f,rfl,A,D⟩;have q:=j.trans (D.mono j.size);have U:Below (w.heap.size+1) _ w2:=(k.mono (by simp)).trans (D.mono (by have:=k.size;simpa using this));have M:=(af.d w w.heap.size rfl 71 #[.bool false,.bool false,.bool false,J 0,J 0,J 0,J 0,sN]).i.c U (by omega);go_wp21;refine m.out _ _ (λ_=>s.out _ q) λ_=>?_;clear m K c;have c:=s.out _ q;try simp only[pU]
 apply tw 33;obtain⟨X,V,Q,Z,Y,R,W,S,r0,r1,r2,r3,r4,r5,r6,r7⟩:=M.l;refine te 34 λK m=>?_;go_simp;refine m.out _ _ (λh=>absurd rfl h) λ_=>?_;clear m K;try simp only[pU]
 refine gl.done (by kernel_rfl) ?_ _;go_wp21;obtain⟨u,o⟩:=LG M (.bool (!H)) (.bool N) (.bool O) (J L) (J y) (J t) (J l.length) (sT g n f);clear X V Q Z Y R W S r0 r1 r2 r3 r4 r5 r6 r7;refine DU (p:=bodyPost _ _ _ _ _) _ λwf z=>?_;rw[<-z.out]at u o;clear z;obtain⟨X,V,Q,Z,Y,R,W,S,-⟩:=u.l;have v:=k.size;simp at v;refine bodyPost_ret (v:=.agg #[.bool (!H),.bool N,.bool O,J L,J y,J t,J l.length,sT g n f]) (by simp[results,results75,go_sem,X,V,Q,Z,Y,R,W,S]) rfl ⟨g,f,rfl,?_,?_⟩;exact aj (aD A (by omega)) λx hx=>o.block x (by have:=(A.lt x hx).1;omega);exact q.trans (o.c Ϫ)
def FR(gw:GW G)(gx:GY w FG gb G){i:Nat}(hi:i<G.n):ϖ 43 #[pT gb 0,J i] w λe w'=>
 ∃gr cap,ϱ e (.tuple #[.agg #[.bool (!(G.b i).f),.bool (G.b i).out,.bool (G.b i).h,J (G.b i).b,J (G.b i).m,J (G.b i).k,J (G.b i).o.length,sT gr G.n cap],J 0])/\w'.ownsRow w.heap.size 3 1 (sT gr G.n cap) G.n (ints (G.b i).Ml)/\Below w.heap.size w w':=by
 obtain⟨pb,bl,Fp,Fn,nv,g,hW⟩:=gx;have hB0:Below w.heap.size w (w.alloc (.cells #[.bool false,.bool false,.bool false,J 0,J 0,J 0,J 0,sN] 71)):=Ϡ.alloc Ϫ _;have g1:=g.o hB0;have hPr:=af.d w w.heap.size rfl 71 #[.bool false,.bool false,.bool false,J 0,J 0,J 0,J 0,sN];have HH:Hid (ϖ 64 _ _ _):=mu i _ _ g1.c0 hi;have HE:Hid (ϖ 75 #[.pointer (some ⟨bl i,0,none⟩)] (w.alloc (.cells #[.bool false,.bool false,.bool false,J 0,J 0,J 0,J 0,sN] 71)) λe w'=>∃g cap,ϱ e (.agg #[.bool (!(G.b i).f),.bool (G.b i).out,.bool (G.b i).h,J (G.b i).b,J (G.b i).m,J (G.b i).k,J (G.b i).o.length,sT g G.n cap])/\w'.ownsRow (w.alloc (.cells #[.bool false,.bool false,.bool false,J 0,J 0,J 0,J 0,sN] 71)).heap.size 3 1 (sT g G.n cap) G.n (ints (G.b i).Ml)/\Below (w.alloc (.cells #[.bool false,.bool false,.bool false,J 0,J 0,J 0,J 0,sN] 71)).heap.size (w.alloc (.cells #[.bool false,.bool false,.bool false,J 0,J 0,J 0,J 0,sN] 71)) w'):=by obtain⟨o,p⟩:=g1.c i hi;rw[show (G.b i).o.length=o.l.length by rw[<-p.ms,yL],show (G.b i).Ml=(G.b i).q.getD i [] by unfold PS.Ml;rw[gw.num i hi]];exact F8 (h:=o.q (G.b i)) (gw.num i hi) (gw.n i hi) rfl rfl rfl rfl rfl rfl hi gw.b p.a
 have c0:=g1.c0;have p0:=g1.b hi;have hk0:(0:Int)<=(i:Int):=by omega
 have hk1:(i:Int)<(G.n:Int):=by omega
 clear g hW g1 hB0;go_enter func43,ntmps43;go_wp21;refine HH.out.mono ?_;rintro e w2⟨rfl,rfl⟩;go_wp21;refine HE.out.mono ?_;rintro e w2⟨gr,cap,rfl,hov,hbv⟩;have hPr2:=hPr.c hbv (by simp);obtain⟨p0,p1,p2,p3,p4,p5,p6,p7,r0,r1,r2,r3,r4,r5,r6,r7⟩:=hPr2.l;clear HH HE c0;go_wp21;obtain⟨hPf,hOn⟩:=LG hPr2 (.bool (!(G.b i).f)) (.bool (G.b i).out) (.bool (G.b i).h) (J (G.b i).b) (J (G.b i).m) (J (G.b i).k) (J (G.b i).o.length) (sT gr G.n cap);clear p0 p1 p2 p3 p4 p5 p6 p7 r0 r1 r2 r3 r4 r5 r6 r7;refine DU (p:=bodyPost _ _ _ _ _) _ λwf hwf=>?_;rw[<-hwf.out]at hPf hOn;clear hwf;obtain⟨p0,p1,p2,p3,p4,p5,p6,p7,-⟩:=hPf.l;refine bodyPost_ret (v:=.tuple #[.agg #[.bool (!(G.b i).f),.bool (G.b i).out,.bool (G.b i).h,J (G.b i).b,J (G.b i).m,J (G.b i).k,J (G.b i).o.length,sT gr G.n cap],J 0]) (by simp[results,results43,go_sem,p0,p1,p2,p3,p4,p5,p6,p7]) rfl ⟨gr,cap,rfl,?_,?_⟩;exact aj (aD hov (by simp)) λx hx=>hOn.block x (by have:=(hov.lt x hx).1;simp at this;omega);exact((Ϡ.alloc Ϫ _).trans (hbv.mono (by simp))).trans (hOn.c Ϫ)
end
section
open Go.RowKit
open Go.ChangeMaps (setBlock)
open Md (PS Grp Book GW)
variable {w w':Δ}{gb n win lim:Nat}{FG:ϑ}{G:Grp}{cr:Book}{k:Nat}{v m:Int}
def CC.Q9{b:Nat}(h:CC w b gb n win lim cr)(c:k<6):w.cell? ⟨b,4+k,none⟩=some (.bool (cr k)):=by
 apply af.a h;match k,c with
 |0,_=>rfl
 |1,_=>rfl
 |2,_=>rfl
 |3,_=>rfl
 |4,_=>rfl
 |5,_=>rfl
def Nw(cr:Book)(G:Grp)(k:Nat)(v m:Int):Prop:=(v=-1/\m=0/\∀j,j<k->cr j=true)\/∃a,a<k/\cr a=false/\v=(G.b a).b/\m=(G.b a).m/\∀i,i<k->cr i=false->(G.b i).b<=v
def Nw.a(h:Nw cr G k v m)(l:cr k=true):Nw cr G (k+1) v m:=by rcases h with ⟨d,b,c⟩|⟨a,d,b,c,e,p⟩;refine .inl ⟨d,b,λj f=>?_⟩;grind;refine .inr ⟨a,ω,b,c,e,λi o g=>?_⟩;grind
def Nw.c(h:Nw cr G k v m)(c:cr k=false)(j:v<(G.b k).b):Nw cr G (k+1) (G.b k).b (G.b k).m:=by refine .inr ⟨k,ω,c,rfl,rfl,λi e f=>?_⟩;rcases h with ⟨-,-,d⟩|⟨a,-,-,-,-,g⟩;grind;grind
def Nw.b(h:Nw cr G k v m)(j:0<=(G.b k).b)(p:¬v<(G.b k).b):Nw cr G (k+1) v m:=by
 rcases h with ⟨f,-,-⟩|⟨a,f,e,d,c,o⟩
 .lia
 refine .inr ⟨a,ω,e,d,c,λi g l=>?_⟩;grind
def Qq(cr:Book)(m:Int)(k:Nat):Nat:=Md.cw k λq=>if Md.aV m q&& !cr q then 1 else 0
def QA(a:Book)(m:Int)(k:Nat):Qq a m k<=Md.Ed a k/\Qq a m k<=k:=by
 refine⟨Md.lk λi _=>?_,?_⟩;grind;unfold Qq;induction k with
 |zero=>simp[Md.cw]
 |succ k b=>
  simp only[Md.cw];grind
def QD(K:Nat)(D:CC w K gb n win lim cr)(gx:GY w FG gb G)(X:GW G)(a7:G.n=n)(hn:1<=n/\n<=6):ϖ 31 #[pT K 0] w λe l=>Ϟ w l/\∃b,ϱ e (.bool b)/\(b=true->∃V M a,Md.PR cr n V M a G/\Md.ir M<2*Md.Ed cr n):=by
 have HC:Hid (∀l,Ϟ w l->ε l K 0 (pT gb 0)/\ε l K 1 (J n)/\∀k,k<6->l.cell? ⟨K,4+k,none⟩=some (.bool (cr k))):=λl x=>
  have S:CC l K gb n win lim cr:=af.c D x (af.f D)
  ⟨af.a S 0 _ rfl,af.a S 1 _ rfl,λk Z=>S.Q9 Z⟩
 have HP:Hid (∀(k:Nat)l,k<n->Ϟ w l->ϖ 43 #[pT gb 0,J k] l λe a6=>∃(c o b:Bool)(s m:Int)(R A:Nat),ϱ e (.tuple #[.agg #[.bool c,.bool o,.bool b,J (G.b k).b,J (G.b k).m,J s,J m,sT R n A],J 0])/\Ϟ l a6):=λk l Z x=>by apply (FR X (gx.a x) (by lia)).mono;grind
 have HV:Hid (∀k,k<n->0<=(G.b k).b):=λk Z=>(X.a k (by lia)).view.1;have HM:Hid (∀v m,Nw cr G n v m->Md.bj m):=λv m h=>by rcases h with ⟨-,rfl,-⟩|⟨a,S,-,-,rfl,-⟩;exact⟨θ,θ⟩;exact(X.a a (by lia)).mem
 have b3:=hn.2;clear D gx X a7 hn;go_enter func31,ntmps31;go_wp2_with fail;go_loopw [3,4,5] (λf g i wr=>∃(k:Nat)(v m:Int),k<=n/\f=J v/\g=J m/\i=J k/\Ϟ w wr/\Nw cr G k v m) λ_ _ i _=>n-(intOf i).toNat
 case atStart=>exact⟨0,-1,0,ω,rfl,rfl,rfl,Below.refl _ _,.inl ⟨rfl,rfl,λj hj=>ω⟩⟩
 case round=>
  obtain⟨k,v,m,Z,rfl,rfl,rfl,p,F⟩:=hrel;obtain⟨c0,c1,c4⟩:=HC wr p;have B:Hid (Ϟ w wr):=p;have HN:Hid (Nw cr G k v m):=F;by_cases P:k<n
  .have Q:=ω;have b8:=ω;have b6:=ω;have C:=c4 k ω;have E:Hid (ϖ 43 _ _ _):=HP k wr P p;clear p F c4;cases z:cr k with
   |true=>
    rw[z]at C;have y:Hid (Nw cr G (k+1) v m):=HN.a z;clear E;go_wp2_with fail;go_roundw
    case rel=>exact⟨k+1,v,m,ω,rfl,rfl,by go_num,B,y⟩
    case measure=>simp[intOf];lia
   |false=>
    rw[z]at C;have b1:Hid (cr k=false):=z;have a0:Hid (0<=(G.b k).b):=HV k P;clear z;go_wp2_with fail;apply E.mono;rintro _ O⟨c,o,b,s,mm,R,A,rfl,I⟩;clear E;have hX:=af.d O O.heap.size rfl 71 #[.bool c,.bool o,.bool b,J (G.b k).b,J (G.b k).m,J s,J mm,sT R n A];have U:Ϟ O (O.alloc (.cells #[.bool c,.bool o,.bool b,J (G.b k).b,J (G.b k).m,J s,J mm,sT R n A] 71)):=Ϡ.alloc Ϫ _;have W:Hid (Ϟ w (O.alloc (.cells #[.bool c,.bool o,.bool b,J (G.b k).b,J (G.b k).m,J s,J mm,sT R n A] 71))):=B.trans ((I.trans (U.mono I.size)).mono B.size);obtain⟨p0,p1,p2,p3,p4,p5,p6,p7,-⟩:=hX.vm;clear I hX U c0 c1 C p0 p1 p2 p5 p6 p7;by_cases hv:v<(G.b k).b
    .have y:Hid (Nw cr G (k+1) (G.b k).b (G.b k).m):=HN.c b1 hv;go_wp2_with fail;go_roundw
     case rel=>exact⟨k+1,_,_,ω,rfl,rfl,by go_num,W,y⟩
     case measure=>simp[intOf];lia
    have y:Hid (Nw cr G (k+1) v m):=HN.b a0 hv;go_wp2_with fail;go_roundw
    case rel=>exact⟨k+1,_,_,ω,rfl,rfl,by go_num,W,y⟩
    case measure=>simp[intOf];lia
  have a8:k=n:=ω;have Q:¬(k:Int)<(n:Int):=ω;have T:Hid (Nw cr G n v m):=by rwa [<-a8]
  have HS:Hid (Md.bj m):=HM v m T;clear c4 F p;go_wp2_with fail;clear c0 c1;go_loopw [8,9] (λu i wq=>∃j:Nat,j<=n/\u=J (Qq cr m j)/\i=J j/\Ϟ w wq) λ_ i _=>n-(intOf i).toNat
  case atStart=>exact⟨0,ω,rfl,rfl,B⟩
  case round=>
   obtain⟨j,hj,rfl,rfl,H⟩:=hrel;obtain⟨c0,c1,c4⟩:=HC wr H;have r:Hid (Ϟ w wr):=H;have HU:Hid (Qq cr m j<=j):=(QA cr m j).2;clear H;by_cases b4:j<n
   .have b0:(j:Int)<(n:Int):=ω;have b7:(0:Int)<=(j:Int):=ω;have b5:(j:Int)<6:=ω;have C:=c4 j ω;have HI:Hid (∀w,ϖ 44 #[J m,J j] w λe l=>ϱ e (.bool (Md.aV m j))/\l=w):=λw=>xQ m j w HS ω;clear c4;go_wp2_with fail;apply (HI _).mono;rintro e w2⟨rfl,rfl⟩;have Y:Hid (Qq cr m (j+1)=Qq cr m j+if Md.aV m j&& !cr j then 1 else 0):=rfl;have hu:=HU.out;cases x:Md.aV m j with
    |true=>
     cases t:cr j with
     |true=>
      rw[t]at C;have q:Hid (Qq cr m (j+1)=Qq cr m j):=by rw[Y,x,t];rfl
      clear x t;go_wp2_with fail;go_roundw
      case rel=>exact⟨j+1,ω,by rw[q],by go_num,r⟩
      case measure=>simp[intOf];lia
     |false=>
      rw[t]at C;have q:Hid (Qq cr m (j+1)=Qq cr m j+1):=by rw[Y,x,t];rfl
      clear x t;go_wp2_with fail;go_roundw
      case rel=>exact⟨j+1,ω,by rw[q];go_num,by go_num,r⟩
      case measure=>simp[intOf];lia
    |false=>
     cases t:cr j with
     |true=>
      rw[t]at C;have q:Hid (Qq cr m (j+1)=Qq cr m j):=by rw[Y,x,t];rfl
      clear x t;go_wp2_with fail;go_roundw
      case rel=>exact⟨j+1,ω,by rw[q],by go_num,r⟩
      case measure=>simp[intOf];lia
     |false=>
      rw[t]at C;have q:Hid (Qq cr m (j+1)=Qq cr m j):=by rw[Y,x,t];rfl
      clear x t;go_wp2_with fail;go_roundw
      case rel=>exact⟨j+1,ω,by rw[q],by go_num,r⟩
      case measure=>simp[intOf];lia
   have b2:j=n:=ω;have b0:¬(j:Int)<(n:Int):=ω;have a9:Hid (∀w,ϖ 45 #[J m] w λe l=>ϱ e (J (Md.ir m))/\l=w):=λw=>Ct m w HS;have hu:=HU;have hq:wrap64 (2*(Qq cr m n:Int))=2*(Qq cr m n:Int):=by have:=(QA cr m n).2;have e:=IntKind.wrap_i64 (2*(Qq cr m n:Int));unfold wrap64;lia
   have HQ:=ah hq;clear hq;by_cases hv:0<=v
   .go_wp2_with fail;apply (a9 _).mono;rintro e w2⟨rfl,rfl⟩;go_wp2_with fail;go_ret;refine⟨r,_,rfl,λh=>?_⟩;have h:=of_decide_eq_true h;rw[HQ]at h;rcases T with ⟨S,-,-⟩|⟨a,a1,a2,a3,a4,a5⟩
    .lia
    have:=(QA cr m n).1;exact⟨v,m,a,⟨a1,a2,a3.symm,a4.symm,a5⟩,ω⟩
   go_wp2_with fail;go_ret;exact⟨r,.inl rfl⟩
end
section
open Go.RowKit
open Go.ChangeMaps (setBlock)
open Md (PS Grp Book GW)
variable {w w':Δ}{gb n win lim:Nat}{FG:ϑ}{G:Grp}{cr:Book}{base m cap g:Nat}{R:Υ}{V M:Int}
abbrev Q8:ϡ:=#[.bool false,.bool false,.bool false,J 0,J 0,J 0,J 0,sN]
def Qx(h:w.ownsRow base 3 1 (sT g m cap) m (ints R))(a:R.length=m)(k:Nat)(b:k<m):ε w g k (J (R.getD k 0)):=by
 have:=h.cells rfl k (J (R.getD k 0)) (by rw[ints,yZ,yj,yh ω];rfl)
 rwa [lu]at this
def QF{b:Nat}{t:ϟ}{f:ϡ}{i:Ϣ}(h:w.ownsRow base 3 1 (sT g m cap) m i)(j:af w b t f)(l:t≠3):g≠b:=by rintro rfl;rcases h.2 with ⟨a,-⟩|⟨o,c,k,a,-,d,-⟩;cases a;injection a with h1;injection h1 with h1;injection h1 with h1;have e:w.heap[g]?=some _:=j;grind
abbrev fl(V M s:Int)(n g cap:Nat):ϡ:=#[.bool true,.bool false,.bool false,J V,J M,J s,J 0,sT g n cap]
def Wt(cr:Book)(w:Δ)(base n:Nat)(V M:Int)(R:Υ)(k:Nat)(f:Θ):Prop:=
 (f=J (-1)/\af w base 71 Q8/\∀j,j<k->cr j=true)\/∃(q:Nat)(s:Int)(g cap:Nat),f=J q/\af w base 71 (fl V M s n g cap)/\w.ownsRow base 3 1 (sT g n cap) n (ints R)
def Wt.a{k:Nat}{f:Θ}(h:Wt cr w base n V M R k f)(e:cr k=true):Wt cr w base n V M R (k+1) f:=by rcases h with ⟨b,a,c⟩|h;refine .inl ⟨b,a,λj d=>?_⟩;grind;exact .inr h
def QR(pp:Nat)(hpl:CC w pp gb n win lim cr)(gx:GY w FG gb G)(gw:GW G)(hgn:G.n=n)(hn:1<=n/\n<=6)(hR:R.length=n)(hM:Md.bj M)(hcr:∀i,i<n->(G.b i).f=cr i)(hall:∀i,i<n->cr i=false->(G.b i).out=false/\(G.b i).h=false/\(G.b i).b=V/\(G.b i).m=M/\(G.b i).o=[]/\(G.b i).Ml=R)(hmem:∀q,q<n->Md.aV M q= !cr q){l:Nat}(hl:l<n)(hul:cr l=false):ϖ 29 #[pT pp 0] w λe w'=>Ϟ w w'/\ϱ e (.bool true):=by
 have HC:Hid (∀w',Ϟ w w'->ε w' pp 0 (pT gb 0)/\ε w' pp 1 (J n)/\∀k,k<6->w'.cell? ⟨pp,4+k,none⟩=some (.bool (cr k))):=λw' hb=>by have h1:CC w' pp gb n win lim cr:=af.c hpl hb (af.f hpl);exact⟨af.a h1 0 _ rfl,af.a h1 1 _ rfl,λk hk=>h1.Q9 hk⟩
 have HP:Hid (∀(k:Nat)w',k<n->cr k=false->Ϟ w w'->ϖ 43 #[pT gb 0,J k] w' λe w''=>∃s gr cap,ϱ e (.tuple #[.agg #[.bool true,.bool false,.bool false,J V,J M,J s,J 0,sT gr n cap],J 0])/\w''.ownsRow w' 3 1 (sT gr n cap) n (ints R)/\Ϟ w' w''):=λk w' hk hu hb=>by refine(FR gw (gx.a hb) (by rw[hgn];exact hk)).mono ?_;rintro e w''⟨gr,cap,rfl,h1,h2⟩;obtain⟨a1,a2,a3,a4,a5,a6⟩:=hall k hk hu;rw[hgn,a6]at h1;rw[hgn,hcr k hk,hu,a1,a2,a3,a4,a5];exact⟨_,gr,cap,rfl,h1,h2⟩
 have H0:Hid (Wt cr (w.alloc (.cells Q8 71)) w.heap.size n V M R 0 (J (-1))):=.inl ⟨rfl,af.d w w.heap.size rfl 71 _,λj hj=>ω⟩;have HB0:Hid (Ϟ w (w.alloc (.cells Q8 71))):=Ϡ.alloc Ϫ _;have HRL:Hid (R.length=n):=hR;have HMM:Hid (∀(j:Nat)w,j<n->ϖ 44 #[J M,J j] w λe w'=>ϱ e (.bool (!cr j))/\w'=w):=λj w hj=>by have:=xQ M j w hM ω;rw[hmem j hj]at this;exact this
 have HL:Hid (l<n/\cr l=false):=⟨hl,hul⟩;have hn6:n<=6:=hn.2;clear hpl gx hall hR hn hM hcr hmem hl hul gw hgn;go_enter func29,ntmps29;go_wp2_with fail;generalize w.alloc (.cells Q8 71)=w0 at H0 HB0|-;go_loopw [3,5] (λf i wr=>∃k:Nat,k<=n/\i=J k/\Ϟ w wr/\Wt cr wr w.heap.size n V M R k f) λ_ i _=>n-(intOf i).toNat
 case atStart=>exact⟨0,ω,rfl,HB0.out,H0.out⟩
 case round=>
  obtain⟨k,hk,rfl,hbel,hwant⟩:=hrel;obtain⟨c0,c1,c4⟩:=HC.out wr hbel;have HBL:Hid (Ϟ w wr):=hbel;have HW:Hid (Wt cr wr w.heap.size n V M R k _):=hwant;by_cases hlt:k<n
  .have hlt1:(k:Int)<(n:Int):=ω;have hk0:(0:Int)<=(k:Int):=ω;have hk6:(k:Int)<6:=ω;have ck:=c4 k ω;cases hcr:cr k with
   |true=>
    rw[hcr]at ck;have HW1:Hid (Wt cr wr w.heap.size n V M R (k+1) _):=HW.out.a hcr;clear hbel hwant c4;go_wp2_with fail;go_roundw
    case rel=>exact⟨k+1,ω,by go_num,HBL.out,HW1.out⟩
    case measure=>simp[intOf];omega
   |false=>
    rw[hcr]at ck;have HP1:Hid (ϖ 43 _ _ _):=HP.out k wr hlt hcr hbel;clear hbel hwant c4 hcr;go_wp2_with fail;refine HP1.out.mono ?_;rintro _ w1⟨s,gr,cap,rfl,hrow,hb1⟩;have hX:=af.d w1 w1.heap.size rfl 71 (fl V M s n gr cap);have hbA:Ϟ w1 (w1.alloc (.cells (fl V M s n gr cap) 71)):=Ϡ.alloc Ϫ _;have HXD:Hid (af (w1.alloc (.cells (fl V M s n gr cap) 71)) w1.heap.size 71 (fl V M s n gr cap)):=hX;have HB2:Hid (Ϟ wr (w1.alloc (.cells (fl V M s n gr cap) 71))):=hb1.trans (hbA.mono hb1.size);have HR2:Hid ((w1.alloc (.cells (fl V M s n gr cap) 71)).ownsRow wr 3 1 (sT gr n cap) n (ints R)):=aj hrow λx hx=>hbA.block x (hrow.lt x hx).2;have HSZ:Hid (w.heap.size<=wr/\wr.heap.size<=w1):=⟨HBL.out.size,hb1.size⟩;clear hrow hb1 HP1 hX hbA c0 c1 ck;obtain⟨p0,p1,p2,p3,p4,p5,p6,p7,-⟩:=HXD.out.vm;obtain⟨c0,c1,-⟩:=HC.out _ (HBL.out.trans (HB2.out.mono HSZ.out.1));go_wp2_with fail;generalize hXn:w1.heap.size=X at HXD HSZ p0 p1 p2 p3 p4 p5 p6 p7|-;generalize w1.alloc (.cells (fl V M s n gr cap) 71)=w2 at HXD HB2 HR2 c0 c1 p0 p1 p2 p3 p4 p5 p6 p7|-;clear hXn;go_quiet (fail);clear c0 c1 p0 p1 p2 p3 p4 p5 p6 p7;have HX3:Hid (af (w2.drewN nq) X 71 (fl V M s n gr cap)):=HXD.out;have HB3:Hid (Ϟ wr (w2.drewN nq)):=below_drewN HB2.out nq;have HR3:Hid ((w2.drewN nq).ownsRow wr 3 1 (sT gr n cap) n (ints R)):=HR2.out;clear HXD HB2 HR2;generalize w2.drewN nq=w3 at HX3 HB3 HR3|-;obtain⟨p0,p1,p2,p3,p4,p5,p6,p7,-⟩:=HX3.out.vm;have HBW:Hid (Ϟ w w3):=HBL.out.trans (HB3.out.mono HSZ.out.1);have HXlt:Hid (X<w3):=HX3.out.f;rcases HW.out with ⟨rfl,hb0,-⟩|⟨q,s0,g0,cap0,rfl,hb0,hr0⟩
    .have hw3:af w3 w.heap.size 71 Q8:=hb0.c HB3.out hb0.f;have hXw:X≠w.heap.size:=by have:=hb0.f;have:=HSZ.out;omega
     obtain⟨q0,q1,q2,q3,q4,q5,q6,q7,r0,r1,r2,r3,r4,r5,r6,r7⟩:=hw3.vm;have HS8:Hid (af w3 w.heap.size 71 Q8):=hw3;have HNE:Hid (X≠w.heap.size/\gr≠w.heap.size):=⟨hXw,QF HR3.out hw3 θ⟩;clear hb0 hw3 hXw HW;go_upto_region 13 with fail;obtain⟨hPf,hOn⟩:=QT HS8.out (.bool true) (.bool false) (.bool false) (J V) (J M) (J s) (J 0) (sT gr n cap);clear q0 q1 q2 q3 q4 q5 q6 q7 r0 r1 r2 r3 r4 r5 r6 r7 p0 p1 p2 p3 p4 p5 p6 p7;generalize hwf:World.setCell _ ⟨w.heap.size,7,none⟩ (sT gr n cap)=w4 at hPf hOn|-;clear hwf;have HX4:Hid (af w4 X 71 (fl V M s n gr cap)):=(hOn.block X HNE.out.1).trans HX3.out;have HP4:Hid (af w4 w.heap.size 71 (fl V M s n gr cap)):=hPf;have HR4:Hid (w4.ownsRow w 3 1 (sT gr n cap) n (ints R)):=aj (aD HR3.out HSZ.out.1) λx hx=>hOn.block x (by
      have:gr=x:=by simpa[Value.ownBlock]using hx
      rw[<-this];exact HNE.out.2)
     have HB4:Hid (Ϟ w w4):=HBW.out.trans (hOn.c Ϫ);clear hPf hOn HX3 HR3 HBW HS8;obtain⟨p0,p1,p2,p3,p4,p5,p6,p7,-⟩:=HX4.out.vm;obtain⟨q0,q1,q2,q3,q4,q5,q6,q7,-⟩:=HP4.out.vm;have HSI:Hid (ϖ 63 #[sT gr n cap,sT gr n cap] w4 _):=Qt (some ⟨gr,0,none⟩) (some ⟨gr,0,none⟩) n cap cap w4 hn6 λj hj=>⟨gr,gr,R.getD j 0,rfl,rfl,Qx HR4.out HRL.out j hj,Qx HR4.out HRL.out j hj⟩;go_wp2_with fail;refine HSI.out.mono ?_;rintro _ w5⟨rfl,m,rfl⟩;clear HSI;have HB5:Hid (Ϟ w (w4.drewN m)):=below_drewN HB4.out m;have HW5:Hid (Wt cr (w4.drewN m) w.heap.size n V M R (k+1) (J k)):=.inr ⟨k,s,gr,cap,rfl,HP4.out,HR4.out⟩;go_wp2_with fail;go_roundw
     case rel=>exact⟨k+1,ω,by go_num,HB5.out,HW5.out⟩
     case measure=>simp[intOf];omega
    have HB0':Hid (af w3 w.heap.size 71 (fl V M s0 n g0 cap0)):=hb0.c HB3.out hb0.f;have HR0:Hid (w3.ownsRow w 3 1 (sT g0 n cap0) n (ints R)):=aj hr0 λx hx=>HB3.out.block x (hr0.lt x hx).2;have hq0:¬(q:Int)<0:=ω;clear hb0 hr0 HW;obtain⟨q0,q1,q2,q3,q4,q5,q6,q7,-⟩:=HB0'.out.vm;have HSI:Hid (ϖ 63 #[sT gr n cap,sT g0 n cap0] w3 _):=Qt (some ⟨gr,0,none⟩) (some ⟨g0,0,none⟩) n cap cap0 w3 hn6 λj hj=>⟨gr,g0,R.getD j 0,rfl,rfl,Qx HR3.out HRL.out j hj,Qx HR0.out HRL.out j hj⟩;go_wp2_with fail;refine HSI.out.mono ?_;rintro _ w4⟨rfl,m,rfl⟩;clear HSI;have HB4:Hid (Ϟ w (w3.drewN m)):=below_drewN HBW.out m;have HW4:Hid (Wt cr (w3.drewN m) w.heap.size n V M R (k+1) (J q)):=.inr ⟨q,s0,g0,cap0,rfl,HB0'.out,HR0.out⟩;go_wp2_with fail;go_roundw
    case rel=>exact⟨k+1,ω,by go_num,HB4.out,HW4.out⟩
    case measure=>simp[intOf];omega
  have hkn:k=n:=ω;have hlt1:¬(k:Int)<(n:Int):=ω;clear c4;rcases HW.out with ⟨-,-,h3⟩|⟨q,s0,g0,cap0,rfl,hb0,-⟩;exact absurd (h3 l (by rw[hkn];exact HL.out.1)) (by rw[HL.out.2];nofun);have HP4:Hid (af wr w.heap.size 71 (fl V M s0 n g0 cap0)):=hb0;have hq0:(0:Int)<=(q:Int):=ω;clear hb0 hwant HW hbel;go_wp2_with fail;obtain⟨wz,ewz⟩:∃wz,wz=wr:=⟨_,rfl⟩;subst ewz;go_loopw [9] (λi wq=>∃j:Nat,j<=n/\i=J j/\Ϟ wz wq) λi _=>n-(intOf i).toNat
  case atStart=>exact⟨0,ω,rfl,Below.refl _ _⟩
  case round=>
   obtain⟨j,hj,rfl,hbq⟩:=hrel;have HBQ:Hid (Ϟ wz wr):=hbq;clear c0 c1;obtain⟨c0,c1,c4⟩:=HC.out wr (HBL.out.trans (hbq.mono HBL.out.size));have HS:Hid (∀w',Ϟ wz w'->ε w' w 4 (J M)/\(j<n->w'.cell? ⟨pp,4+j,none⟩=some (.bool (cr j)))):=λw' hw=>⟨(HP4.out.c hw HP4.out.f).a 4 _ rfl,λhjn=>(HC.out w' (HBL.out.trans (hw.mono HBL.out.size))).2.2 j ω⟩;clear hbq c4;by_cases hjn:j<n
   .have hj1:(j:Int)<(n:Int):=ω;have hj0:(0:Int)<=(j:Int):=ω;have hj6:(j:Int)<6:=ω;have HI:Hid (∀w,ϖ 44 #[J M,J j] w λe w'=>ϱ e (.bool (!cr j))/\w'=w):=λw=>HMM.out j w hjn;generalize hcj:cr j=b at HS HI;clear hcj;go_upto_region 19 with fail;cases b<;>(
     refine wp_region_held_drew (S:=λw'=>ε w' w 4 (J M)/\w'.cell? ⟨pp,4+j,none⟩=some (.bool _)) rfl ⟨(HS.out _ HBQ.out.drew).1,(HS.out _ HBQ.out.drew).2 hjn⟩ λhHeld=>?_;(iterate 6 refine ψ ?_);apply wk 7;apply wk 8;apply wk 9;apply wk 10;apply wk 11;apply wk 12;refine we 6 λK hK=>?_;go_simp;refine(HI.out _).mono ?_;rintro e w2⟨rfl,rfl⟩;go_wp2_with fail;refine hK.out _ _ ⟨(HS.out _ HBQ.out.drew).1,(HS.out _ HBQ.out.drew).2 hjn⟩ λhHeld=>?_;clear hK K;try simp only[pU]
     (iterate 2 refine ψ ?_)
     refine wpAnyH_done κ ?_ _;go_wp2_with fail;go_roundw
     case rel=>exact⟨j+1,ω,by go_num,HBQ.out.drew⟩
     case measure=>(simp[intOf];omega))
   have hj1:¬(j:Int)<(n:Int):=ω;go_wp2_with fail;go_ret;exact⟨HBL.out.trans (HBQ.out.mono HBL.out.size),rfl⟩
open Md (Wf)
variable {ls:Nat->List Ev}{GR:Grp}
def EG:(prog.info? 37).map (λi=>(i.zero,i.size,i.bytes))=some (some (.agg #[sN]),1,24):=κ
end
end Go.Proofs.Y
namespace Go.Cr
section
open Go Go.Conc
variable {i j:Nat}{p:Ϙ}{a:Act}
def fj(ops:Array Oper)(i:Nat):Ϙ:=match ops[i]? with
 |some o=>(o.after.toList.filter (Region.binds .any)).map (·.on)
 |none=>[]
def Fv(ops:Array Oper):Nat->Ϙ->Ϙ
 |0,l=>l
 |f+1,l=>Fv ops f (l++l.flatMap (fj ops))
def dR(ops:Array Oper)(i:Nat):Option Nat:=(ops[i]?).bind (·.dst)
def iw(ops:Array Oper)(m sz:Nat):Bool:=
 decide (m<ops.size)&&((List.range m).all λi=>match dR ops i with|some d=>decide (d<sz)|none=>false)
 &&((List.range m).all λi=>(List.range m).all λj=>i==j|| !(dR ops i==dR ops j))
 &&((List.range ops.size).all λi=>(fj ops i).all λj=>decide (j<i))
 &&((List.range ops.size).all λi=>decide (i<m)||(List.range m).all λj=>(Fv ops 5 (fj ops i)).contains j)
section
variable {ops:Array Oper}{m sz:Nat}
def iw.e(h:iw ops m sz=true):m<ops.size:=by simp only[iw,yB,decide_eq_true_eq]at h;exact h.1.1.1.1
def iw.d(h:iw ops m sz=true)(b:i<m):∃d,dR ops i=some d/\d<sz:=by simp only[iw,yB,y5,zD]at h;have:=h.1.1.1.2 i b;rcases e:dR ops i with _|d;rw[e]at this;cases this;rw[e]at this;exact⟨d,rfl,ϰ this⟩
def iw.f(h:iw ops m sz=true)(c:i<m)(d:j<m)(b:i≠j):dR ops i≠dR ops j:=by simp only[iw,yB,y5,zD]at h;have:=h.1.1.2 i c j d;simpa[b]using this
def iw.c(h:iw ops m sz=true)(b:i<ops.size)(c:j∈fj ops i):j<i:=by simp only[iw,yB,y5,zD]at h;have:=h.1.2 i b j c;simpa using this
def iw.last(h:iw ops m sz=true)(c:i<ops.size)(e:m<=i)(d:j<m):j∈Fv ops 5 (fj ops i):=by
 simp only[iw,yB,y5,zD]at h;have:=h.2 i c;rw[Bool.or_eq_true]at this;rcases this with b|b
 .simp at b;lia
 rw[y5]at b;simpa using b j (zD.2 d)
def CS(e:∀i∈p,∀j∈fj ops i,j∈p):∀(f:Nat)(l:Ϙ),(∀x∈l,x∈p)->∀x∈Fv ops f l,x∈p:=by
 intro f;induction f with
 |zero=>intro l h;exact h
 |succ f k=>
  intro l h;refine k _ λx c=>?_;rcases yz.1 c with b|b;exact h x b
  let ⟨y,d,g⟩:=Km.1 b
  exact e y (h y d) x g
structure sj(a0:Act)(ops:Array Oper)(vals:Nat->Θ)(p:Ϙ)(a:Act):Prop where
 e:∀j∈p,∀d,dR ops j=some d->a.tmps[d]?=some (vals j)
 c:∀t,(∀j∈p,dR ops j≠some t)->a.tmps[t]?=a0.tmps[t]?
 defers:a.defers=a0.defers
 size:a.tmps.size=a0.tmps.size
def AM(a0:Act)(ops:Array Oper)(vals:Nat->Θ):Ϙ->Act:=List.foldl (λa i=>a.put (dR ops i) (vals i)) a0
variable {a0:Act}{vals:Nat->Θ}
def sj.nil:sj a0 ops vals [] a0:=⟨λ_ b=>(yU b).elim,λ_ _=>rfl,rfl,rfl⟩
def sj.put(f:iw ops m a0.tmps.size=true)(h:sj a0 ops vals p a)(w:∀j∈p,j<m)(u:i<m)(r:i∉p):sj a0 ops vals (p++[i]) (a.put (dR ops i) (vals i)):=by
 let ⟨d,g,n⟩:=iw.d f u
 rw[g];have e:(a.put (some d) (vals i)).tmps=a.tmps.setIfInBounds d (vals i):=rfl;refine⟨λj o k b=>?_,λt s=>?_,h.defers,by rw[e,Array.size_setIfInBounds];exact h.size⟩
 .rw[e];rcases yz.1 o with c|c
  .have q:d≠k:=λl=>by subst l;exact iw.f f u (w j c) (λv=>r (v▸c)) (g.trans b.symm)
   rw[yP q];exact h.e j c k b
  rw[yu]at c;subst c;obtain rfl:d=k:=Option.some.inj (g.symm.trans b);rw[yR (by rwa [h.size])]
 rw[e,yP λl:d=t=>s i ς (by rw[g,l])];exact h.c t λj o=>s j (by simp[o])
def sj.fin(f:iw ops m a0.tmps.size=true):∀(q p:Ϙ)(a:Act),sj a0 ops vals p a->(p++q).Nodup->(∀j∈p++q,j<m)->sj a0 ops vals (p++q) (q.foldl (λa i=>a.put (dR ops i) (vals i)) a):=by
 intro q;induction q with
 |nil=>intro p a h _ _;simpa using h
 |cons i q l=>
  intro p a h c b;have e:p++i::q=(p++[i])++q:=ς;rw[e]at c b|-;exact l _ _ (h.put f (λj k=>b j (by simp[k])) (b i ς) λg=>(GZ.1 (GZ.1 c).1).2.2 i g i ς rfl) c b
def sj.f{q:Ϙ}{d:Act}(h:sj a0 ops vals p a)(g:sj a0 ops vals q d)(c:∀x,x∈p↔x∈q):a=d:=by
 have:a.tmps=d.tmps:=by
  refine LN λt=>?_;by_cases f:∃j∈p,dR ops j=some t
  .let ⟨j,b,k⟩:=f
   rw[h.e j b t k,g.e j ((c j).1 b) t k]
  rw[h.c t λj b e=>f ⟨j,b,e⟩,g.c t λj b e=>f ⟨j,(c j).2 b,e⟩]
 cases a;cases d;simp only at this;subst this;have:=h.defers.trans g.defers.symm;simp only at this;rw[this]
end
def rf(m n:Nat):Array Bool:=(List.replicate m true++List.replicate (n-m) false).toArray
section
variable {P:ϛ}{main:Bool}{K:ϑ}{A:Ξ}{X:Ϥ}{Stop:(ϑ)->Ϛ->Ξ}{b:Frame}{k:List Item}{cs:List Frame}{ops:Array Oper}
def ox{E:Act}{m:Nat}{vals:Nat->Θ}{I:(ϑ)->Ξ}(z:iw ops m E.tmps.size=true)(R:∀i,i<m->∀(a:Act)(M:Ϙ)(O:ϑ)(w:Δ),(∀j∈fj ops i,∀d,dR ops j=some d->a.tmps[d]?=some (vals j))->(∀t,(∀j,j<m->dR ops j≠some t)->a.tmps[t]?=E.tmps[t]?)->I O w->
  (∀O' w',I O' w'->Pm.Way P main K A X Stop O' (G (b.at (a.put (dR ops i) (vals i)) (.inRegion ops M::k)) cs) w')->Pm.Way P main K A X Stop O (G (b.at a (.inRegion ops (i::M)::k)) cs) w)(hk:∀O w,I O w->∀l∈ik ops (ops.size-m) (rf m ops.size),Pm.Way P main K A X Stop O (G (b.at (AM E ops vals (List.range m)) (.inRegion ops l::k)) cs) w):∀O w,I O w->∀l∈ik ops ops.size (Array.replicate ops.size false),Pm.Way P main K A X Stop O (G (b.at E (.inRegion ops l::k)) cs) w:=by
 have c3:=iw.e z;have b1:∀(f:Nat)(p:Ϙ)(c:Array Bool)(a:Act)(O:ϑ)(w:Δ),c.toList.count false=f->c.size=ops.size->p.Nodup->(∀j∈p,j<m)->(∀j,c.getD j false=true↔j∈p)->(∀i∈p,∀j∈fj ops i,j∈p)->sj E ops vals p a->I O w->
  ∀l∈ik ops f c,Pm.Way P main K A X Stop O (G (b.at a (.inRegion ops l::k)) cs) w:=by
  intro f;induction f with
  |zero=>
   intro p c a O w s Z _ U B _ _ _ _ _;exfalso;have hm:m<c.size:=ω;have u:c.getD m false=true:=by
    rw[ya,yl hm];simp;cases Y:c[m]with
    |true=>rfl
    |false=>exact absurd (Y▸Array.getElem_mem_toList hm) ((List.count_eq_zero.1 s))
   have:=U m ((B m).1 u);lia
  |succ f ih=>
   intro p c a O w s Z b6 U B hc hd hI l D;by_cases v:∀j,j<m->j∈p
   .have L:∀x,x∈p↔x∈List.range m:=λx=>⟨λh=>zD.2 (U x h),λh=>v x (zD.1 h)⟩;have W:sj E ops vals (List.range m) (AM E ops vals (List.range m)):=by have:=sj.fin (vals:=vals) z (List.range m) [] E sj.nil (by simpa using List.nodup_range) ς;rwa [List.nil_append]at this
    have a4:c=rf m ops.size:=by
     refine Array.ext (by simp[rf];lia) λt u T=>?_;have S:=B t;rw[ya,yl u]at S;simp at S;have h4:(rf m ops.size)[t]=decide (t<m):=by
      simp only[rf,yf];rw[List.getElem_append];split
      .rename_i h;simp at h;simp[h]
      rename_i h;simp at h;simp;lia
     rw[h4];rw[Bool.eq_iff_iff,S,L t,zD];simp
    subst a4;have hf:f+1=ops.size-m:=by rw[<-s];simp[rf,List.count_replicate]
    rw[hf]at D;rw[(hd.f W L)];exact hk O w hI l D
   ·
    have F:∀i,i∈Region.ready .any ops c->i<m/\i∉p/\i<c.size/\c.getD i true=false/\∀j∈fj ops i,j∈p:=by
     intro i hi
     let ⟨h0,o,ho,N⟩:=mem_ready.1 hi
     have q:∀j∈fj ops i,j∈p:=λj r=>by simp only[fj,ho,yW,yM]at r;obtain⟨e,⟨he,Y⟩,rfl⟩:=r;exact(B _).1 (N e (ϰ he) Y)
     have C:i<m:=by refine Nat.lt_of_not_le λb2=>v λj r=>?_;exact CS hc 5 _ q j (iw.last z ((yk.1 ho).1) b2 r)
     refine⟨C,λH=>?_,ω,h0,q⟩;have u:=(B i).2 H;rw[ya,yl ω]at h0 u;simp at h0 u;rw[h0]at u;cases u
    have b5:Region.ready .any ops c≠[]:=by
     have b7:∃j,j<m/\j∉p:=Classical.byContradiction λa9=>v λj r=>Classical.byContradiction λh=>a9 ⟨j,r,h⟩;have a1:∀n j,j<=n->j<m->j∉p->∃i,i<m/\i∉p/\∀x,x<i->x∈p:=by
      intro n;induction n with
      |zero=>intro j u T S;exact⟨j,T,S,λx Q=>ω⟩
      |succ n a8=>
       intro j u T S;by_cases Q:∃x,x<j/\x∉p
       .let ⟨x,a2,a5⟩:=Q
        exact a8 x ω ω a5
       exact⟨j,T,S,λx a2=>Classical.byContradiction λh=>Q ⟨x,a2,h⟩⟩
     let ⟨j,c1,c0⟩:=b7
     let ⟨i,c2,b4,a7⟩:=a1 j j Ϫ c1 c0
     have g:i<ops.size:=ω;have:i∈Region.ready .any ops c:=mem_ready.2 ⟨by
      have u:¬c.getD i false=true:=λh=>b4 ((B i).1 h);rw[ya,yl (ω:i<c.size)]at u|-;simpa using u,ops[i],yl g,λe he Y=>(B _).2 (a7 _ (iw.c z g (by simp only[fj,yl g,yW,yM];exact⟨e,⟨ϰ he,Y⟩,rfl⟩)))⟩
     intro h;rw[h]at this;cases this
    have a3:(Region.ready .any ops c).isEmpty=false:=by
     cases hr:Region.ready .any ops c with
     |nil=>exact absurd hr b5
     |cons x xs=>rfl
    simp only[ik,a3,yH,if_false,Km,yW]at D;obtain⟨i,hi,l',b8,rfl⟩:=D
    let ⟨C,H,g,V,q⟩:=F i hi
    refine R i C a l' O w (λj r d b0=>hd.e j (q j r) d b0) (λt ht=>hd.c t λj r=>ht j (U j r)) hI λO' w' b9=>?_;have b3:c[i]=false:=by rw[ya,yl g]at V;simpa using V
    refine ih (p++[i]) (c.setIfInBounds i true) _ O' w' ?_ (ϰ Z) ?_ ?_ ?_ ?_ (hd.put z U C H) b9 l' b8;rw[Array.toList_setIfInBounds,List.count_set (ϰ g)];have:c.toList[i]'(ϰ g)=false:=ϰ b3;rw[this,s];simp;rw[GZ];exact⟨b6,ς,λx Q y hy e=>by simp at hy;subst hy;subst e;exact H Q⟩
    .intro j r;rcases yz.1 r with h|h;exact U j h;simp at h;lia
    intro j;by_cases e:j=i;subst e;simp[Array.getD_eq_getD_getElem?,Array.getElem?_setIfInBounds_self_of_lt g];rw[ya,yP λh=>e h.symm,<-ya,B j];simp[e];intro x Q j r;rcases yz.1 Q with h|h;simp[hc x h j r];simp at h;subst h;simp[q j r]
 intro O w hI l B;refine b1 ops.size [] (Array.replicate ops.size false) E O w ?_ ς ς ς (λj=>?_) ς sj.nil hI l B;simp;simp[Array.getD_eq_getD_getElem?,Array.getElem?_replicate];split<;>simp
end
end
section
open Go Go.Conc Go.RowKit Go.Proofs
open Go.Pm (Rely Guar Ev grow Perm Fam Loose Among Sim Ran Sup Ext)
structure Gh(u:Perm)(w wa:Δ)(O:ϑ):Prop where
 a:Loose fam u w wa
 d:Pm.Shut fam w
 f:Tabs w
 e:Tabs wa
 c:Among fam u w.heap.size O
def lK(L:List (Nat×Obj))(O:ϑ)(u:Perm)(n:Nat)(wa:Δ):Prop:=∀x∈L,O x.1/\wa.heap[x.1]?=some x.2/\∀r,7<=r->r<n->u.f r≠x.1
structure qp(O K:ϑ)(w:Δ):Prop where
 c:∀b,O b->b<w.heap.size
 a:∀b,K b->b<w.heap.size
 ok:∀b,O b->¬K b
section
variable {K:ϑ}{A:Ξ}{X:Ϥ}{Stop:(ϑ)->Ϛ->Ξ}{O:ϑ}{g:Ϛ}{u:Perm}{w wa waB:Δ}{L:List (Nat×Obj)}
def Gh.rely(h:Gh u w wa O)(d:∀b,b<2->K b)(a:Rely O K A wa waB):Gh u w waB O:={h with a:=h.a.rely h.c a,e:=leafLaw.a wa waB (λb c=>a.a b (.inr (d b c))) h.e}
def Gh.b(h:Gh u w wa O){r o:Nat}{v:Θ}(a:7<=r)(b:ε w r o v):wa.cell? ⟨u.f r,o,none⟩=some (v.pm u)/\O (u.f r):=
 ⟨Sim.j h.a.i (a:=(aT r o)) a b,h.c r a (yI w _ b)⟩
def lK.rely(h:lK L O u w.heap.size wa)(b:Rely O K A wa waB):lK L O u w.heap.size waB:=λx a=>⟨(h x a).1,(b.a x.1 (.inl (h x a).1)).trans (h x a).2.1,(h x a).2.2⟩
def lL(h:Pm.Way prog true K A X Stop O g w)(e:qp O K w):Pm.Way prog true K A X (λO g w=>Stop O g w/\qp O K w) O g w:=by
 induction h with
 |stop h=>exact .stop λd a=>⟨h d a,λb c=>yg (e.c b c) a.size,λb c=>yg (e.a b c) a.size,e.ok⟩
 |@step O g w i f _ n=>
  refine .step i f λd r t s a k=>?_;obtain⟨q,p,o,l,j⟩:=f d a;rw[l]at k;obtain⟨rfl,rfl,rfl⟩:=aF k;refine n d _ _ _ a l ⟨λb c=>?_,λb c=>?_,λb c m=>?_⟩;rcases c with c|c;exact yg (e.c b c) (yr a.size j.size);exact c.2;exact yg (e.a b c) (yr a.size j.size);rcases c with c|c;exact e.ok b c m;have:=e.a b m;have:=a.size;lia
def fE(S:∀b,b<2->K b)(h:Gh u w wa O)(U:lK L O u w.heap.size wa){f:FuncId}(hF:fam f=true)(D:fam.leaf f=false){args j:ϡ}(T:∀v∈args,Sup fam w.heap.size v)(o:args.map u.v=j){R:Ending->Ξ}(z:∀E,Ext w E->ϖ f args (w.tp E) R)(V:∀e k,R e k->∃v,ϱ e v){c:Frame}{m:List Frame}(hk:∀v k a d q,R (.returned v) k->Gh a k d q->lK L q a k.heap.size d->w.heap.size<=k->(∀r,r<w.heap.size->a.f r=u.f r)->Sup fam k.heap.size v->Pm.Way prog true K A X Stop q (G (c.finish (v.pm a)) m) d):Pm.Way prog true K A X Stop O (G (Frame.enter prog f j .normal) (c::m)) wa:=by
 rw[<-o];refine Pm.rz progOk leafLaw S (λO u n wa C l Q x p=>⟨(l x p).1,(Q.a x.1 (.inl (l x p).1)).trans (l x p).2.1,(l x p).2.2⟩) (λO u a w wa k d l _ F i x p=>?_) U h.a h.d h.f h.e h.c hF D T z V λv k a d q s t h3 h4 Y N W P M l=>hk v k a d q s ⟨t,h3,h4,Y,N⟩ l W P M;obtain⟨Z,I,H⟩:=l x p;have B:=(yk.1 I).1;refine⟨.inl Z,(i.j x.1 B λr s t=>H r s t).trans I,λr s t e=>?_⟩;by_cases z:r<w;exact H r s z (by rwa [<-i.c r z]);have:=i.k r ω t;lia
end
end
end Go.Cr
namespace Go.Proofs.Y
section
open Go.RowKit
open Go.Cr Go.Conc
open Go.Pm (Rely Perm Sup Ext)
open Md (Grp Book)
def GY.d{w w':Δ}{FG:ϑ}{gb:Nat}{G:Grp}(g:GY w FG gb G)(h:w'.heap=w.heap):GY w' FG gb G:=by obtain⟨pb,bl,Fp,Fn,nv,g,hW⟩:=g;exact⟨pb,bl,Fp,Fn,nv,g.k (λx _=>by rw[h]) (λx _=>by rw[h]) (by rw[h];exact Ϫ),hW⟩
def GY.f{w:Δ}{FG:ϑ}{gb:Nat}{G:Grp}(g:GY w FG gb G):7<=gb/\gb<w:=by obtain⟨pb,bl,Fp,Fn,nv,g,hW⟩:=g;exact⟨g.g.1,g.net.a.f⟩
def jY{w:Δ}{b:Nat}(h10:7<=b)(hb:b<w):Sup fam w (pT b 0):=λC hσ=>by have:C.f b=b:=hσ.1 b h10 hb;simp[Addr.pm,this]
def eM{n:Nat}{v:Θ}(h:∀ρ:Perm,v.pm ρ=v):Sup fam n v:=λC _=>h C
structure gN where
 n:Nat
 d:Nat
 b:Nat
abbrev zV:=Grp->Book->Prop
def Mq(c:gN)(P0 G0:Nat)(J:zV)(L:List (Nat×Obj))(O:ϑ)(wa:Δ):Prop:=
 ∃(U:Perm)(w:Δ)(pp gb:Nat)(FG:ϑ)(G:Grp)(cr:Book),Gh U w wa O/\lK L O U w.heap.size wa/\U.f pp=P0/\U.f gb=G0/\7<=pp/\CC w pp gb c.n c.d c.b cr/\¬FG pp/\GY w FG gb G/\J G cr
section
variable {c:gN}{P0 G0:Nat}{J J':zV}{L:List (Nat×Obj)}{O K:ϑ}{A:Ξ}{X:Ϥ}{Stop:(ϑ)->Ϛ->Ξ}{wa waB:Δ}
def Mq.rely(h:Mq c P0 G0 J L O wa)(hK:∀b,b<2->K b)(hr:Rely O K A wa waB):Mq c P0 G0 J L O waB:=by obtain⟨U,w,pp,gb,FG,G,cr,h1,h2,h3⟩:=h;exact⟨U,w,pp,gb,FG,G,cr,h1.rely hK hr,h2.rely hr,h3⟩
def Mq.b(h:Mq c P0 G0 J L O wa)(hJ:∀G cr,J G cr->J' G cr):Mq c P0 G0 J' L O wa:=by obtain⟨U,w,pp,gb,FG,G,cr,h1,h2,h3,h4,h5,h6,h7,h8,h9⟩:=h;exact⟨U,w,pp,gb,FG,G,cr,h1,h2,h3,h4,h5,h6,h7,h8,hJ _ _ h9⟩
def Mq.e(h:Mq c P0 G0 J L O wa):∃G cr,J G cr/\Mq c P0 G0 (λG' cr'=>G'=G/\cr'=cr) L O wa:=by obtain⟨U,w,pp,gb,FG,G,cr,h1,h2,h3,h4,h5,h6,h7,h8,h9⟩:=h;exact⟨G,cr,h9,U,w,pp,gb,FG,G,cr,h1,h2,h3,h4,h5,h6,h7,h8,rfl,rfl⟩
def Mq.a{G:Grp}{cr:Book}(h:Mq c P0 G0 (λG' cr'=>G'=G/\cr'=cr) L O wa):O P0/\ε wa P0 0 (pT G0 0)/\ε wa P0 1 (ϲ c.n)/\(∀k,k<6->wa.cell? ⟨P0,4+k,none⟩=some (.bool (cr k)))/\ε wa P0 10 (.bool true):=by
 obtain⟨U,w,pp,gb,FG,G',cr',h1,h2,rfl,rfl,h5,h6,-,-,rfl,rfl⟩:=h;have c0:=h1.b h5 (af.a h6 0 _ rfl);refine⟨c0.2,by simpa[Addr.pm]using c0.1,by simpa using (h1.b h5 (af.a h6 1 _ rfl)).1,λk hk=>?_,by simpa using (h1.b h5 (af.a h6 10 _ rfl)).1⟩;match k,hk with
 |0,_=>simpa using (h1.b h5 (af.a h6 4 _ rfl)).1
 |1,_=>simpa using (h1.b h5 (af.a h6 5 _ rfl)).1
 |2,_=>simpa using (h1.b h5 (af.a h6 6 _ rfl)).1
 |3,_=>simpa using (h1.b h5 (af.a h6 7 _ rfl)).1
 |4,_=>simpa using (h1.b h5 (af.a h6 8 _ rfl)).1
 |5,_=>simpa using (h1.b h5 (af.a h6 9 _ rfl)).1
def Mq.f(h:Mq c P0 G0 J L O wa)(hK:∀b,b<2->K b){f:FuncId}(hF:fam f=true)(hlf:fam.leaf f=false)(onG:Bool){args:Ϣ}(ha:∀v∈args,∀ρ:Perm,v.pm ρ=v){Q:Θ->zV}{cf:Frame}{rest:List Frame}(hc:∀w pp gb FG G cr,CC w pp gb c.n c.d c.b cr->¬FG pp->GY w FG gb G->J G cr->ϖ f (Value.pointer (some ⟨if onG then gb else pp,0,none⟩)::args).toArray w λe w'=>∃v,ϱ e v/\(∀ρ:Perm,v.pm ρ=v)/\∃G',GT w w' FG gb G'/\Q v G' cr)(hk:∀v O' wa',Mq c P0 G0 (Q v) L O' wa'->Pm.Way prog true K A X Stop O' (G (cf.finish v) rest) wa'):Pm.Way prog true K A X Stop O (G (Frame.enter prog f (Value.pointer (some ⟨if onG then G0 else P0,0,none⟩)::args).toArray .normal) (cf::rest)) wa:=by
 obtain⟨U,w,pp,gb,FG,G,cr,h1,h2,rfl,rfl,h5,h6,h7,h8,h9⟩:=h;have hgb:=h8.f;have hpp:pp<w:=af.f h6;refine fE hK h1 h2 hF hlf (args:=(Value.pointer (some ⟨if onG then gb else pp,0,none⟩)::args).toArray) (λv hv=>?_) ?_ (R:=λe w'=>∃v,ϱ e v/\(∀ρ:Perm,v.pm ρ=v)/\∃G',(∀k,k<w.heap.size->¬FG k->w'.heap[k]?=w.heap[k]?)/\GY w' (aY FG w) gb G'/\Q v G' cr) (λq _=>?_) (λe w' h=>?_) λv w' π' wa' O' hR hg hL hsz hsame _=>?_
 .rw[Cy]at hv;rcases yF.1 hv with rfl|hv;cases onG;exact jY h5 hpp;exact jY hgb.1 hgb.2;exact eM (ha v hv)
 .rw[Fj,yN,iL λv hv=>ha v hv U];cases onG<;>simp[Addr.pm]
 refine(hc (w.tp q) pp gb FG G cr h6 h7 (h8.d rfl) h9).mono ?_;rintro e w'⟨v,rfl,hv,G',hgs,hq⟩;exact⟨v,rfl,hv,G',λk hk hn=>hgs.1.block k hk hn,hgs.2,hq⟩;obtain⟨v,h,-⟩:=h;exact⟨v,h⟩;obtain⟨v',e,hv,G',hbl,hgx,hq⟩:=hR;injection e with e;subst e;rw[hv];refine hk v O' wa' ⟨π',w',pp,gb,aY FG w,G',cr,hg,hL,hsame pp hpp,hsame gb hgb.2,h5,(hbl pp hpp h7).trans h6,λe=>?_,hgx,hq⟩;rcases e with e|e;exact h7 e;omega
def Mq.g(h:Mq c P0 G0 J L O wa)(hK:∀b,b<2->K b){f:FuncId}(hF:fam f=true)(hlf:fam.leaf f=false){args:Ϣ}(ha:∀v∈args,∀ρ:Perm,v.pm ρ=v){v:Θ}(hv:∀ρ:Perm,v.pm ρ=v){cf:Frame}{rest:List Frame}(hc:∀w,ϖ f args.toArray w λe w'=>ϱ e v/\w'=w)(hk:∀O' wa',Mq c P0 G0 J L O' wa'->Pm.Way prog true K A X Stop O' (G (cf.finish v) rest) wa'):Pm.Way prog true K A X Stop O (G (Frame.enter prog f args.toArray .normal) (cf::rest)) wa:=by
 obtain⟨U,w,pp,gb,FG,G,cr,h1,h2,rfl,rfl,h5,h6,h7,h8,h9⟩:=h;refine fE hK h1 h2 hF hlf (args:=args.toArray) (λv hv=>eM (ha v (by simpa using hv))) (by rw[Fj,iL λv hv=>ha v hv U]) (R:=λe w'=>ϱ e v/\w'.heap=w.heap) (λq _=>(hc (w.tp q)).mono λe w' h=>⟨h.1,by rw[h.2];rfl⟩) (λe w' h=>⟨v,h.1⟩) λv' w' π' wa' O' hR hg hL hsz hsame _=>?_;obtain⟨e,hh⟩:=hR;injection e with e;subst e;rw[hv];exact hk O' wa' ⟨π',w',pp,gb,FG,G,cr,hg,hL,hsame pp (af.f h6),hsame gb h8.f.2,h5,(by show w'.heap[pp]?=_;rw[hh];exact h6),h7,h8.d hh,h9⟩
def Mq.i(h:Mq c P0 G0 J L O wa)(ob:Obj):Mq c P0 G0 J ((wa.heap.size,ob)::L) (λb=>O b\/b=wa) (wa.alloc ob):=by obtain⟨U,w,pp,gb,FG,G,cr,h1,h2,h3⟩:=h;have hold:∀b,b<wa.heap.size->(wa.alloc ob).heap[b]?=wa.heap[b]?:=λb hb=>Below.heap_alloc _ _ _ hb;have hlt:∀r,r<w.heap.size->U.f r<wa:=λr hr=>h1.a.i.k hr;have h10:7<=wa.heap.size:=h1.a.a;refine⟨U,w,pp,gb,FG,G,cr,⟨⟨λr o hl hr=>?_,h1.a.d,h1.a.c,by have:=h1.a.a;simp at this|-;omega,h1.a.os,h1.a.g,h1.a.b⟩,h1.d,h1.f,bR h1.e λx hx=>hold x ω,λr h8 hr=>.inl (h1.c r h8 hr)⟩,λx hx=>?_,h3⟩;rw[hold _ (hlt r (yk.1 hr).1)];exact h1.a.e r o hl hr;rcases yF.1 hx with rfl|hx;exact⟨.inr rfl,heap_alloc_new wa ob,λr _ hr e=>by have:=hlt r hr;simp only at e;omega⟩;obtain⟨z1,z2,z3⟩:=h2 x hx;exact⟨.inl z1,(hold _ (yk.1 z2).1).trans z2,z3⟩
def Mq.side(h:Mq c P0 G0 J L O wa){bx:Nat}{cs:ϡ}{ty:ϟ}(hx:(bx,Obj.cells cs ty (0,0))∈L):O bx/\∀(j:Nat)(u:Θ),cs[j]?=some u->ε wa bx j u:=by obtain⟨U,w,pp,gb,FG,G,cr,h1,h2,h3⟩:=h;obtain⟨z1,z2,-⟩:=h2 _ hx;exact⟨z1,λj u hu=>af.a (T:=ty) (cs:=cs) z2 j u hu⟩
def Mq.d(h:Mq c P0 G0 J L O wa){L':List (Nat×Obj)}(hL:∀x∈L',x∈L):Mq c P0 G0 J L' O wa:=by obtain⟨U,w,pp,gb,FG,G,cr,h1,h2,h3⟩:=h;exact⟨U,w,pp,gb,FG,G,cr,h1,λx hx=>h2 x (hL x hx),h3⟩
end
open Go.Pm (Ev)
open Md (PS Wf GW)
variable {rest:List Frame}{c cf:Frame}{a:Nat}{ua:Θ}
section
variable {n:Nat}{V:Θ}{us:Ϣ}{L:List (Nat×Obj)}{O K:ϑ}{A:Ξ}{X:Ϥ}{Stop:(ϑ)->Ϛ->Ξ}{wa waB:Δ}
end
section
variable{c5:gN}{P0 G0:Nat}{J:zV}{L:List (Nat×Obj)}{O K:ϑ}{A:Ξ}{X:Ϥ}{Stop:(ϑ)->Ϛ->Ξ}{wa waB:Δ}
def M0(L:List (Nat×Obj))(O:ϑ)(wa:Δ):Prop:=∃(π:Perm)(w:Δ),Gh π w wa O/\lK L O π w.heap.size wa
def M0.rely(h:M0 L O wa)(i:∀b,b<2->K b)(d:Rely O K A wa waB):M0 L O waB:=
 let ⟨g,w,f,e⟩:=h
 ⟨g,w,f.rely i d,e.rely d⟩
def M0.g(h:Tabs wa)(e:7<=wa.heap.size)(i:∀x∈L,O x.1/\wa.heap[x.1]?=some x.2):M0 L O wa:=by have c:Cl wa (λ_=>False):=⟨h,e,λx d=>d.elim⟩;obtain⟨w,l,m,k,j,-,b,-⟩:=c.e;exact⟨l,w,⟨m,k,j,h,λr g f=>(b r g f).elim⟩,λx d=>⟨(i x d).1,(i x d).2,λr g f=>(b r g f).elim⟩⟩
def M0.f(h:M0 L O wa)(m:Obj):M0 ((wa.heap.size,m)::L) (λb=>O b\/b=wa) (wa.alloc m):=by obtain⟨p,w,d,v⟩:=h;have i:∀b,b<wa.heap.size->(wa.alloc m).heap[b]?=wa.heap[b]?:=λb y=>Below.heap_alloc _ _ _ y;have k:∀r,r<w.heap.size->p.f r<wa:=λr j=>d.a.i.k j;have t:7<=wa.heap.size:=d.a.a;refine⟨p,w,⟨{d.a with e:=λr o z j=>?_,a:=by have:=d.a.a;simp at this|-;lia},d.d,d.f,bR d.e λx l=>i x ω,λr u j=>.inl (d.c r u j)⟩,λx l=>?_⟩;rw[i _ (k r (yk.1 j).1)];exact d.a.e r o z j;rcases yF.1 l with rfl|l;exact⟨.inr rfl,heap_alloc_new wa m,λr _ j e=>by have:=k r j;simp only at e;lia⟩;obtain⟨s,n,q⟩:=v x l;exact⟨.inl s,(i _ (yk.1 n).1).trans n,q⟩
def M0.side(h:M0 L O wa){b:Nat}{d:ϡ}{f:ϟ}(e:(b,Obj.cells d f (0,0))∈L):O b/\∀(j:Nat)(u:Θ),d[j]?=some u->ε wa b j u:=by obtain⟨n,w,m,k⟩:=h;obtain⟨i,l,-⟩:=k _ e;exact⟨i,λj u g=>af.a l j u g⟩
def M0.e(h:M0 L O wa){L':List (Nat×Obj)}(d:∀x∈L',x∈L):M0 L' O wa:=
 let ⟨g,w,f,e⟩:=h
 ⟨g,w,f,λx b=>e x (d x b)⟩
def M0.b(h:M0 L O wa)(F:∀b,b<2->K b)(t:1<=c5.n/\c5.n<=6)(s:1<=c5.d/\c5.d<=8)(C:1<=c5.b/\c5.b<=4000)(B:∀r N k d,Mq c5 r N (λG z=>Md.dY c5.n c5.d c5.b G z) L k d->Pm.Way prog true K A X Stop k (G (cf.finish (pT r 0)) rest) d):Pm.Way prog true K A X Stop O (G (Frame.enter prog 25 #[.agg #[ϲ c5.n,ϲ c5.d,ϲ c5.b],.bool true] .normal) (cf::rest)) wa:=by
 obtain⟨P,w,j,M⟩:=h;refine fE F j M rfl rfl (λu q=>?_) ς (R:=λe i=>∃f g,ϱ e (pT f 0)/\CC i f g c5.n c5.d c5.b (λ_=>false)/\w<=f/\GY i (λx=>w<=x/\x<f) g (BZ c5.n c5.d c5.b)) (λy _=>(EX (w.tp y) j.f j.a.c t s C).mono ?_) (λe i h=>?_) λv i l d k I D H _ _ _=>?_
 .simp at q;rcases q with rfl|rfl<;>exact eM ς
 rintro e i⟨f,g,rfl,-,m,p,o⟩;exact⟨f,g,rfl,m,p,o⟩;obtain⟨f,g,h,-⟩:=h;exact⟨_,h⟩;obtain⟨f,g,e,m,p,o⟩:=I;injection e with e;subst e;have:=B _ _ k d ⟨l,i,f,g,_,_,_,D,H,rfl,rfl,by have E:7<=w.heap.size:=j.a.c;lia,m,λh=>ω,o,.start t C.2⟩;simpa[Addr.pm]using this
end
end
section
open Go.RowKit
open Go.Cr Go.Conc
open Go.Pm (Perm Loose Among Sup Ext SupO obj_comp pm_comp loose_live)
open Md (PS Wf)
def Loose.KL{d c:Perm}{j w i:Δ}(h:Loose fam d w i)(a:Loose fam c j w):Loose fam (d.Mg c) j i:=by refine⟨λr o l e=>?_,λr e=>?_,a.c,h.a,h.os.trans a.os,λf=>?_,?_⟩;have k:=h.e _ _ (loose_live a l) (a.e r o l e);rw[obj_comp]at k;exact k;show d.f _=r;rw[a.d r e,h.d r e];show d.g _=f;rw[a.g,h.g];show (d.b !=c.b)=false;rw[h.b,a.b];rfl
def Loose.Hi{c:Perm}{w d a:Δ}(h:Loose fam c w d)(l:∀r,7<=r->r<w.heap.size->a.heap[c.f r]?=d.heap[c.f r]?)(e:d.heap.size<=a)(i:a.os=d.os):Loose fam c w a:=
 ⟨λr o k j=>(l r k (yk.1 j).1).trans (h.e r o k j),h.d,h.c,yr h.a e,i.trans h.os,h.g,h.b⟩
def Cl.h{w:Δ}{F:ϑ}(c:Cl w F){g:Nat}{a:ϡ}{e:ϟ}{h:Nat×Nat}(d:7<=g)(l:w.heap[g]?=some (.cells a e h))(i:∀u∈a.toList,∀p:Perm,u.pm p=u):Cl w (λx=>F x\/x=g):=by refine⟨c.g,c.f,λx b=>?_⟩;rcases b with b|rfl;obtain⟨n,o,q,k⟩:=c.d x b;exact⟨n,o,q,k.a λr _ f=>.inl f⟩;refine⟨d,_,l,λm _=>?_⟩;simp only[Obj.pm,Obj.cells.injEq,and_true];have:=iL λu j=>i u j m;exact Array.ext' (by simpa using this)
def KU(b0:Nat)(S:PS)(D:ϑ):bE:=λO wa=>
 ∃(ρ:Perm)(W:Δ)(b:Nat)(F:ϑ),Loose fam ρ W wa/\Pm.Shut fam W/\Among fam ρ W.heap.size O/\(∀x,D x->∃r,7<=r/\r<W.heap.size/\ρ.f r=x)/\ρ.f b=b0/\(∀x,F x->7<=x/\x<W.heap.size)/\PZ W F b S
def KU.a{g:Nat}{S:PS}{D K:ϑ}(O:ϑ)(w a:Δ)(m:∀b,O b\/K b->a.heap[b]?=w.heap[b]?)(d:w.heap.size<=a)(e:a.eo=w.eo)(h:KU g S D O w):KU g S D O a:=by obtain⟨n,W,b,F,l,k,f,j⟩:=h;exact⟨n,W,b,F,Loose.Hi l (λr c i=>m _ (.inl (f r c i))) d (congrArg Prod.fst e),k,f,j⟩
section
variable {b base:Nat}{π:Perm}{w wa wL:Δ}{F:ϑ}{S:PS}{v:Θ}{l:List (Ϭ)}{R:ϑ}{A:Ξ}
def Fq(F:ϑ)(v:Θ):ϑ:=λr=>F r\/v.ownBlock=some r
def KG(cur:ϡ):Prop:=∀u∈cur.toList,∃s,u=Value.string s
def Fq.a(c:Cl w F){m:Nat}{B:Ϣ}(j:w.ownsRow base 9 1 v m B)(f:7<=base)(i:∀g a e q,v.ownBlock=some g->w.heap[g]?=some (.cells a e q)->KG a):Cl w (Fq F v):=by
 rcases d:v.ownBlock with _|g
 .have e:Fq F v=F:=by funext r;apply propext;unfold Fq;rw[d];exact⟨λh=>h.elim id nofun,Or.inl⟩
  rw[e];exact c
 have e:Fq F v=λx=>F x\/x=g:=by funext r;apply propext;unfold Fq;rw[d];exact⟨λh=>h.imp id λh=>by injection h with h;exact h.symm,λh=>h.imp id λh=>by rw[h]⟩
 rw[e];rcases j.2 with ⟨k,-⟩|⟨p,t,a,k,n,o,-⟩;rw[k]at d;cases d;have z:p=g:=by rw[k]at d;simpa[Value.ownBlock]using d
 subst z;refine c.h (yr f n) o λu y C=>?_;obtain⟨s,rfl⟩:=i p a _ _ d o u y;simp
def GN(a4:Loose fam π w wa)(p:PZ w F b S)(c:Cl w F)(wf:Wf S)(hs:S.e=[])(a5:l.length<=40000)(a8:∀s∈l,s.length<=140737488351232)(m:w.ownsRow base 9 1 v l.length (l.map λs=>Value.string ⟨s.toArray⟩))(E:7<=base)(z:∀g L e fz,v.ownBlock=some g->w.heap[g]?=some (.cells L e fz)->KG L)(Q:∀g,v.ownBlock=some g->¬F g)(hR:∀b,b<2->R b)(b3:Tabs wL)(H:∀r,Fq F v r->wL.heap[π.f r]?=wa.heap[π.f r]?)(b0:wa.heap.size<=wL)(a2:wL.eo=wa.eo):ov prog false R A oK 101 #[.pointer (some ⟨π.f b,0,none⟩),v.pm π] (λx=>∃r,Fq F v r/\π.f r=x) wL λ_=>KU (π.f b) (S.Nc l) (λx=>∃r,Fq F v r/\π.f r=x):=by
 obtain⟨j,a,hL,hS,hT,-,U,d,Y,-⟩:=(Fq.a c m E z).e;obtain⟨o0,p0⟩:=p.c λr o B ho=>Y r o (.inl B) ho;have y:=d b (.inl p.d);have Z:=λx k=>by have n:=d _ (show Fq F v (a.f x) from k);rwa [a.a]at n
 have t:∀x,tf a.MS F x->tf a.MS (Fq F v) x:=λx k=>.inl k;have p1:=(p0.c t).h;have a7:∀x,o0.M (a.i b) x->tf a.MS F x:=λx k=>by rcases p0.h.mf k with h|h;exact h;have:=p0.h.h k;omega
 have K:eB j (o0.R (aY (tf a.MS (Fq F v)) j) (a.i b)) 9 1 (v.pm a.MS) l.length (l.map λs=>Value.string ⟨s.toArray⟩):=by
  have r0:eB w (Fq F v) 9 1 v l.length (l.map λs=>Value.string ⟨s.toArray⟩):=⟨(wG (λ_ _=>trivial) m).d,λg q=>.inr q⟩;have r1:=eB.j Y (λx k=>by obtain⟨s,-,rfl⟩:=yW.1 k;simp) r0
  refine⟨r1.d,λg q=>⟨.inl (r1.c g q),λhM=>?_⟩⟩;have n:v.ownBlock=some (a.f g):=by rw[qe]at q;obtain⟨g0,O,e⟩:=yE.1 q;have:a.i g0=g:=e;rw[<-this,a.c];exact O
  exact Q _ n (a7 g hM)
 have C:¬aY (tf a.MS (Fq F v)) j 1:=λe=>by rcases e with e|e;have:=(Z 1 e).1;omega;have:=hL.c;omega
 intro b4 cf b5 G;have D:(#[Value.pointer (some ⟨a.i b,0,none⟩),v.pm a.MS].map (Value.pm (π.Mg a)))=#[.pointer (some ⟨π.f b,0,none⟩),v.pm π]:=by
  have e1:(v.pm a.MS).pm (π.Mg a)=v.pm π:=by rw[<-pm_comp π a,pm_comp a a.MS,Pm.rr _ (Perm.M7 a)]
  have e2:(π.Mg a).f (a.i b)=π.f b:=by show π.f _=π.f b;rw[a.c]
  simp[e1,Addr.pm,e2]
 rw[<-D];refine Pm.Dr progOk leafLaw hR (Loose.Hi (Loose.KL a4 hL) (λr I B=>H _ (U r I B)) b0 (congrArg Prod.fst a2)) hS hT b3 (λr I B=>⟨a.f r,U r I B,rfl⟩) rfl rfl (λu hu=>?_) (R:=λe P=>ϱ e ϳ/\∃W,PP P (aY (tf a.MS (Fq F v)) j) (a.i b) (S.Nc l) W) (λN _=>?_) (λe P h=>⟨_,h.1⟩) λv' P b1 a6 O' a3 hl a9 _ _ b2 V a0 _=>?_;intro σ T;simp at hu;rcases hu with rfl|rfl;have:=T.1 _ y.1 y.2;simp[Addr.pm,this];rcases m.2 with ⟨O,-⟩|⟨g,b6,L,O,-⟩;rw[O];simp;have q:=d g (.inr (by rw[O];rfl));have:=T.1 _ q.1 q.2;rw[O];simp[Addr.pm,Perm.MS,this];have hk:∀x:Nat,(j.tp N).heap[x]?=j.heap[x]?:=λ_=>rfl;have p2:PP (j.tp N) (aY (tf a.MS (Fq F v)) j) (a.i b) S o0:=((p0.c t).g (w':=j.tp N) (λx _ _=>hk x) Ϫ).h;have r2:eB (j.tp N) (o0.R (aY (tf a.MS (Fq F v)) j) (a.i b)) 9 1 (v.pm a.MS) l.length (l.map λs=>Value.string ⟨s.toArray⟩):=K.i λx _=>hk x;have X:CH (j.tp N):=wY (w:=j.tp N) (bR hT λx _=>hk x);refine(GM p2 wf X C (by rw[hs];simp) a5 a8 r2).m ?_;rintro P⟨W,h'⟩;exact⟨rfl,W,h'.c⟩;obtain⟨-,W,hp⟩:=a3;refine G _ O' a6 ⟨b1,P,a.i b,λx=>aY (tf a.MS (Fq F v)) j x/\x<P,hl,a9,b2,λx k=>?_,?_,λx k=>⟨?_,k.2⟩,W,hp.a6⟩;obtain⟨r,B,rfl⟩:=k;have n:=d r B;refine⟨a.i r,n.1,yg n.2 V,?_⟩;rw[a0 _ n.2];show π.f (a.f (a.i r))=π.f r;rw[a.c];rw[a0 _ y.2];show π.f (a.f (a.i b))=π.f b;rw[a.c];rcases k.1 with n|n;exact(Z x n).1;have:7<=j.heap.size:=hL.c;omega
end
open Go.Pm (merge)
open Md (Grp)
variable {gb pb:Nat}{bl:Nat->Nat}{Fp Bw Os:Nat->ϑ}{G:Grp}{st':Nat->PS}{π:Perm}{w wa wa':Δ}
def E5(h:Loose fam π w wa)(hs:Pm.Shut fam w)(b4:Tabs wa')(g:GQ w gb pb bl Fp (λ_=>False) G (sN))(a6:G.a=[])(a1:∀i,i<G.n->¬Bw i gb/\¬Bw i pb)(b1:wa.heap.size<=wa')(E:∀r,7<=r->r<w.heap.size->(∀i,i<G.n->¬Bw i r)->wa'.heap[π.f r]?=wa.heap[π.f r]?)(hq:∀i,i<G.n->KU (π.f (bl i)) (st' i) (λx=>∃r,Bw i r/\π.f r=x) (Os i) wa')(Q:∀i k,i<G.n->k<G.n->i≠k->∀b,Os i b->¬Os k b)(O:∀i,i<G.n->∀r,7<=r->r<w.heap.size->(∀j,j<G.n->¬Bw j r)->¬Os i (π.f r)):∃(q:Δ)(a:Perm)(V:Nat->ϑ),Loose fam a q wa'/\Pm.Shut fam q/\Tabs q/\w.heap.size<=q/\(∀r,r<w.heap.size->a.f r=π.f r)/\(∀r,7<=r->r<w.heap.size->(∀i,i<G.n->¬Bw i r)->q.heap[r]? =w.heap[r]?)/\
   (∀r,7<=r->r<q.heap.size->(r<w.heap.size/\∀i,i<G.n->¬Bw i r)\/∃i,i<G.n/\Os i (a.f r))/\GQ q gb pb bl V (λ_=>False) {G with b:=st'} (sN)/\(∀i x,i<G.n->V i x->Bw i x\/w.heap.size<=x):=by
 have a0:∀i,∃t:Perm×Δ×Nat×(ϑ),i<G.n->Loose fam t.1 t.2.1 wa'/\Pm.Shut fam t.2.1/\Among fam t.1 t.2.1.heap.size (Os i)/\(∀x,(∃r,Bw i r/\π.f r=x)->∃r,7<=r/\r<t.2.1.heap.size/\t.1.f r=x)/\t.1.f t.2.2.1=π.f (bl i)/\(∀x,t.2.2.2 x->7<=x/\x<t.2.1.heap.size)/\PZ t.2.1 t.2.2.2 t.2.2.1 (st' i):=λi=>by
  by_cases c:i<G.n
  obtain⟨l,W,b,F,hh⟩:=hq i c;exact⟨(l,W,b,F),λ_=>hh⟩;exact⟨(Perm.id,w,0,λ_=>False),λh=>absurd h c⟩
 obtain⟨T,hT⟩:=Classical.axiomOfChoice a0;obtain⟨l,a2⟩:∃l:Nat->Perm,l=λi=>(T i).1:=⟨_,rfl⟩;obtain⟨W,hW⟩:∃W:Nat->Δ,W=λi=>(T i).2.1:=⟨_,rfl⟩;obtain⟨b,C⟩:∃b:Nat->Nat,b=λi=>(T i).2.2.1:=⟨_,rfl⟩;obtain⟨F,hF⟩:∃F:Nat->ϑ,F=λi=>(T i).2.2.2:=⟨_,rfl⟩;have H:∀i,i<G.n->Loose fam (l i) (W i) wa'/\Pm.Shut fam (W i)/\Among fam (l i) (W i).heap.size (Os i)/\(∀x,(∃r,Bw i r/\π.f r=x)->∃r,7<=r/\r<(W i).heap.size/\(l i).f r=x)/\(l i).f (b i)=π.f (bl i)/\(∀x,F i x->7<=x/\x<(W i).heap.size)/\PZ (W i) (F i) (b i) (st' i):=by subst a2 hW C hF;exact hT
 clear hT a2 hW C hF a0 hq;clear T;obtain⟨q,a,p,a8,a7,s,a3,hK,u,R,-⟩:=merge h hs (yr h.a b1) (λi c=>⟨(H i c).1,(H i c).2.1⟩) (λr o hl b5 y=>(E r hl (yk.1 y).1 b5).trans (h.e r o hl y)) (λr hl y hn=>by have:∃i,i<G.n/\Bw i r:=Classical.byContradiction λK=>hn λi c C=>K ⟨i,c,C⟩;obtain⟨i,c,b2⟩:=this;obtain⟨k,m,P,A⟩:=(H i c).2.2.2.1 _ ⟨r,b2,rfl⟩;exact⟨i,k,c,m,P,A⟩)
 have X:=bR b4 λx d=>a3 x d;have a4:∀r,r<7->a.i r=r:=λr y=>by have:=p.d r y;rw[<-this,a.a,this]
 have b0:∀i,i<G.n->Loose fam (a.MS.Mg (l i)) (W i) q:=λi c=>by refine⟨u i c,λr y=>?_,(H i c).1.c,p.c,p.os.symm.trans (H i c).1.os,λf=>?_,?_⟩;show a.i _=r;rw[(H i c).1.d r y];exact a4 r y;show a.j _=f;rw[(H i c).1.g];have:=a.d f;rwa [p.g]at this;show (a.b !=(l i).b)=false;rw[p.b,(H i c).1.b];rfl
 have z:(∀i,i<G.n->¬Bw i gb)/\∀i,i<G.n->¬Bw i pb:=⟨λi c=>(a1 i c).1,λi c=>(a1 i c).2⟩;have L:=g.net.a.f;have I:=g.d.f;have Z:=λi c=>Cl.a (b0 i c) (H i c).2.1 X;have v:∀i x,i<G.n->(∃r,7<=r/\r<(W i).heap.size/\(a.MS.Mg (l i)).f r=x)->Os i (a.f x):=λi x c⟨r,m,P,A⟩=>by
  have h4:a.f x=(l i).f r:=by rw[<-A];exact a.c _
  rw[h4];exact(H i c).2.2.1 r m P
 refine⟨q,a,λi x=>∃r,7<=r/\r<(W i).heap.size/\(a.MS.Mg (l i)).f r=x,p,a8,X,a7,s,hK,λr m P=>?_,⟨⟨(hK gb g.g.1 L z.1).trans g.net.a,by show World.ownsRow q 0 111 2 _ G.a.length (ar G.a);rw[a6];exact World.ownsRow_nil _ _ _ _,λx d=>by cases d⟩,(hK pb g.g.2 I z.2).trans g.d,λi c=>?_,λi j x c D d hy=>?_,λi x c d h=>h,λi c=>⟨λd=>?_,λd=>?_⟩,⟨id,id⟩,g.t,λx d=>d.elim,Z,g.g,λx d=>d.elim⟩,λi x c d=>?_⟩;rcases R r m P with A|⟨i,k,c,A,h4,h5⟩;exact .inl A;exact .inr ⟨i,c,by rw[<-h5];exact(H i c).2.2.1 k A h4⟩
 .have a5:i<G.n:=c;obtain⟨-,-,-,-,C,M,hp⟩:=H i a5;have a9:bl i<w:=(g.c i a5).f;have:=hp.c (ρ:=a.MS.Mg (l i)) (w2:=q) λr o y ho=>u i c r o (M r y).1 ho;have e:(a.MS.Mg (l i)).f (b i)=bl i:=by show a.i ((l i).f (b i))=bl i;rw[C,<-s _ a9,a.a]
  rw[e]at this;exact this.e λx d=>⟨(a.MS.Mg (l i)).i x,(M _ d).1,(M _ d).2,(a.MS.Mg (l i)).c x⟩
 exact Classical.byContradiction λN=>Q i j c D N _ (v i x c d) (v j x D hy);have m:=v i gb c d;rw[s gb L]at m;exact O i c gb g.g.1 L z.1 m;have m:=v i pb c d;rw[s pb I]at m;exact O i c pb g.g.2 I z.2 m;rcases Fs x w.heap.size with S|Y;left;have m:=v i x c d;rw[s x S]at m;have b3:=((Z i c).d x d).1;apply Classical.byContradiction;intro K;by_cases B:∃j,j<G.n/\Bw j x;obtain⟨j,D,U⟩:=B;have N:i≠j:=λe=>K (e▸U);obtain⟨r,P,A,h4⟩:=(H j D).2.2.2.1 _ ⟨x,U,rfl⟩;have h5:=(H j D).2.2.1 r P A;rw[h4]at h5;exact Q i j c D N _ m h5;exact O i c x b3 S (λj D C=>B ⟨j,D,C⟩) m;exact .inr Y
end
section
open Go.RowKit
open Go.Cr Go.Conc
open Go.Pm (Perm Loose Among Sup Ext Rely)
open Md (PS Grp Book GW carried)
structure Tq(w:Δ)(FG:ϑ)(gb pb:Nat)(bl:Nat->Nat)(Fp:Nat->ϑ)(G:Grp)(nv:Θ):Prop where
 f:GQ w gb pb bl Fp (λ_=>False) {G with a:=[]} (sN)
 e:∀x,Wh gb pb G.n Fp (λ_=>False) x->FG x
 a:w.ownsRow 0 111 2 nv G.a.length (ar G.a)
 b:∀g,nv.ownBlock=some g->FG g/\7<=g/\g≠gb/\g≠pb/\∀i,i<G.n->¬Fp i g
section
variable {w w':Δ}{FG:ϑ}{gb pb:Nat}{bl:Nat->Nat}{Fp:Nat->ϑ}{G:Grp}{nv:Θ}
def Cp(g:GY w FG gb G):∃l p o m,ϖ 59 #[pT gb 1] w λe n=>ϱ e m/\n.heap.size=w/\(∀k,k≠gb->n.heap[k]?=w.heap[k]?)/\Tq n FG gb l p o G m:=by obtain⟨l,p,o,t,m,g,q⟩:=g;refine⟨l,p,o,m,(qR g.net).mono ?_⟩;rintro e n⟨rfl,rfl⟩;have d:=(ej.d gb w).a 2 (Value.slice none 0 0);have j:=λk s=>d.block k s;have c:=d.size;have r:=λi x b a=>j x λe=>(g.a i b).1 (e▸a);refine⟨rfl,c,j,⟨⟨⟨g.net.a.e 2 _,World.ownsRow_nil _ _ _ _,λx a=>by cases a⟩,(j l λe=>g.t e.symm).trans g.d,λi b=>(g.c i b).a (λx a _=>r i x b a) (by rw[c];exact Ϫ),g.dis,λi x b a h=>h,g.a,⟨id,id⟩,g.t,λx a=>a.elim,λi b=>(g.q i b).c (λx a=>r i x b a) (λx a=>j x λe=>by have:=g.g.1;omega) (by rw[c];exact Ϫ),g.g,λx a=>a.elim⟩,λx a=>q x ?_,?_,λx a=>?_⟩⟩;rcases a with h|h|h|h;exact .inl h;exact .inr (.inl h);exact h.elim;exact .inr (.inr (.inr h));exact aj g.net.b.d λx a=>j x λe=>g.r.1 (e▸g.net.b.c x a);have f:=g.net.b.c x a;exact⟨q x (.inr (.inr (.inl f))),g.u x f,λe=>g.r.1 (e▸f),λe=>g.r.2 (e▸f),λi b h=>g.e i x b h f⟩
def Tq.d(t:Tq w FG gb pb bl Fp G nv)(c:∀k,k<w.heap.size->w'.heap[k]?=w.heap[k]?)(b:w.heap.size<=w'):Tq w' FG gb pb bl Fp G nv:=
 ⟨t.f.k (λx a=>c x (t.f.z a).2) (λx a=>c x (yg a t.f.lw)) b,t.e,aj t.a λx a=>c x (t.a.lt x a).2,t.b⟩
def E7(t:Tq w FG gb pb bl Fp G nv)(h:G.n<=6)(l:G.a.length<=1000000)(d:∀x∈G.a,∃j:Nat,j<G.n/\x.1=(j:Int)):ϖ 61 #[nv,ϲ G.n] w λe a=>ϱ e (sT w G.n G.n)/\(∀k,k<w.heap.size->a.heap[k]?=w.heap[k]?)/\w.heap.size<=a/\a.os=w.os/\∃p,CF a w w G.n p (eC G.a):=by obtain⟨o,m,f⟩:=bG t.a;have g:eB w (λ_=>True) 111 2 _ _ _:=⟨f▸t.a,λ_ _=>trivial⟩;rw[f];refine(Co G.n h o m g l d).m ?_;rintro a⟨c,b⟩;exact⟨rfl,λk i=>c.block k i,c.size,c.os,b⟩
def qk(a:List bC)(j:Nat):(eC a j).map Value.string=(Grp.MT a j).map (λs=>Value.string ⟨s.toArray⟩)/\(eC a j).length=(Grp.MT a j).length:=by
 have e:(λx:bC=>decide (x.1=(j:Int)))=λc=>c.1==(j:Int):=by funext x;rw[Bool.eq_iff_iff];simp
 unfold eC Grp.MT;rw[e];refine⟨?_,ς⟩;rw[AD,AD];refine GU λx _=>?_;simp
end
def Mw(c:gN)(P0 G0 PB:Nat)(BL:Nat->Nat)(J:zV)(L:List (Nat×Obj))(O:ϑ)(wa:Δ):Prop:=
 ∃(P:Perm)(w:Δ)(pp gb pb:Nat)(bl:Nat->Nat)(Fp:Nat->ϑ)(Fn:ϑ)(G:Grp)(cr:Book)(nv:Θ),Gh P w wa O/\lK L O P w.heap.size wa/\P.f pp=P0/\P.f gb=G0/\P.f pb=PB/\(∀i,i<G.n->P.f (bl i)=BL i)/\7<=pp/\CC w pp gb c.n c.d c.b cr/\¬Wh gb pb G.n Fp Fn pp/\GQ w gb pb bl Fp Fn G nv/\G.n=c.n/\J G cr
section
variable {c:gN}{P0 G0 PB:Nat}{BL:Nat->Nat}{J J':zV}{L:List (Nat×Obj)}{O K:ϑ}{A:Ξ}{X:Ϥ}{Stop:(ϑ)->Ϛ->Ξ}{wa waB:Δ}
def Mw.rely(h:Mw c P0 G0 PB BL J L O wa)(i:∀b,b<2->K b)(a:Rely O K A wa waB):Mw c P0 G0 PB BL J L O waB:=by obtain⟨p,w,k,f,e,o,n,q,G,m,g,l,j,d⟩:=h;exact⟨p,w,k,f,e,o,n,q,G,m,g,l.rely i a,j.rely a,d⟩
def Mw.d(h:Mw c P0 G0 PB BL J L O wa)(t:∀G a,J G a->J' G a):Mw c P0 G0 PB BL J' L O wa:=by obtain⟨x,w,l,r,f,o,m,p,G,a,s,n,u,q,j,y,i,v,k,g,e,b,d⟩:=h;exact⟨x,w,l,r,f,o,m,p,G,a,s,n,u,q,j,y,i,v,k,g,e,b,t _ _ d⟩
def Mw.a(h:Mw c P0 G0 PB BL J L O wa):O G0/\O PB/\ε wa G0 0 (sT PB c.n c.n)/\∀i,i<c.n->ε wa PB i (.pointer (some ⟨BL i,0,none⟩)):=by obtain⟨t,w,p,l,k,s,q,u,G,r,m,d,o,-,rfl,rfl,a,-,-,-,g,e,-⟩:=h;have f:=d.b g.g.1 (g.net.a.z 0);refine⟨f.2,d.c k g.g.2 g.d.f,by rw[<-e];simpa[Addr.pm]using f.1,λi b=>?_⟩;rw[<-e]at b;have:=(d.b g.g.2 (g.b b)).1;simp only[Pm.bh,yp,Addr.pm,a i b]at this;exact this
def Mw.b(h:Mw c P0 G0 PB BL J L O wa)(hK:∀b,b<2->K b){k:Nat}(hk:k<c.n)(hl:∀G s,J G s->Md.Wf (G.b k)/\G.a.length<=4000/\(G.b k).e.length<=60000+6*(1+(G.b k).o.length)){Z:Frame}{o:List Frame}(U:∀M m,Mw c P0 G0 PB BL (λG s=>∃G1,J G1 s/\G=G1.MB k) L M m->Pm.Way prog true K A X Stop M (Conc.G (Z.finish ϳ) o) m):Pm.Way prog true K A X Stop O (Conc.G (Frame.enter prog 62 #[pT G0 0,.pointer (some ⟨BL k,0,none⟩)] .normal) (Z::o)) wa:=by
 obtain⟨P,w,H,r,E,q,I,Q,G,s,nv,h1,h2,rfl,rfl,rfl,y,h5,W,C,g,N,V⟩:=h;have D:=g.net.a.f;have z:=af.f W;have f:k<G.n:=by rw[N];exact hk
 have p:∀i,i<G.n->7<=q i/\q i<w:=λi t=>⟨g.lp t (g.c i t).d,(g.c i t).f⟩;obtain⟨wf,a3,a2⟩:=hl G s V;have a0:=g.v f wf;refine fE hK h1 h2 rfl rfl (args:=#[pT r 0,.pointer (some ⟨q k,0,none⟩)]) (λv Y=>?_) (by simp[Addr.pm,y k f]) (R:=λe u=>ϱ e ϳ/\(∀x,x<w.heap.size->¬Wh r E G.n I Q x->u.heap[x]?=w.heap[x]?)/\∃d j,GQ u r E q I d (G.MB k) j/\∀x,d x->aY Q w x) (λτ _=>?_) (λe u h=>⟨_,h.1⟩) λv u S m M hR hg hL a1 a _=>?_;simp at Y;rcases Y with rfl|rfl;exact jY g.g.1 D;exact jY (p k f).1 (p k f).2;have F:GQ (w.tp τ) r E q I Q G nv:=g.k (λ_ _=>rfl) (λ_ _=>rfl) Ϫ;refine(F.p f ω).m ?_;rintro u⟨T,d,j,F,R⟩;exact⟨rfl,λx l N=>T.block x l N,d,j,F,R⟩;obtain⟨e,B,d,j,F,R⟩:=hR;injection e with e;subst e;refine U M m ⟨S,u,H,r,E,q,I,d,G.MB k,s,j,hg,hL,a H z,a r D,a E g.d.f,λi t=>(a _ (p i t).2).trans (y i t),h5,(B H z C).trans W,λl=>?_,F,N,G,V,rfl⟩;rcases l with l|l|l|l;exact C (.inl l);exact C (.inr (.inl l));rcases R H l with h|h;exact C (.inr (.inr (.inl h)));omega;exact C (.inr (.inr (.inr l)))
def Mw.e(h:Mw c P0 G0 PB BL J L O wa):Mq c P0 G0 J L O wa:=by obtain⟨r,w,l,e,d,q,n,t,G,o,f,p,k,b,j,-,-,s,i,m,g,-,a⟩:=h;exact⟨r,w,l,e,_,G,o,p,k,b,j,s,i,m,⟨d,q,n,t,f,g,λ_ h=>h⟩,a⟩
end
open Go.Pm (Ev)
section
def pZ:Code->Code
 |.seq _ (.seq _ (.seq _ (.seq (.seq _ (.block _ (.loop c))) _)))=>c
 |_=>.skip
def wZ:Code->Code
 |.seq _ (.seq _ (.seq _ (.seq _ t)))=>t
 |_=>.skip
noncomputable def Cd:Code:=pZ (f28.body.getD .skip)
noncomputable def IV:Code:=wZ (f28.body.getD .skip)
def zA{P:ϛ}{e:Bool}{K:ϑ}{A:Ξ}{X:Ϥ}{d:(ϑ)->Ϛ->Ξ}{O:ϑ}{w:Δ}{b:Frame}{a:Act}{f:List Item}{c:Frame}{i:List Frame}{j:Func}{t:Nat}{v:Θ}(m:b.kind=.normal)(l:a.defers=[])(k:P.funcs[b.fn]?=some j)(g:j.results=#[.tmp t])(n:a.tmps.getD t undef=v)(h:Pm.Way P e K A X d O (G (c.finish v) i) w):Pm.Way P e K A X d O (G {b.at a f with mode:=.returning} (c::i)) w:=
 au rfl (λw=>by rw[stepG_leave m l k ((results_tmp g _ P w).trans (by rw[n])) (events_results_tmp g _ _)]) h
variable {c:gN}{P0 G0 PB m c3:Nat}{a3:ϣ}{BL:Nat->Nat}{J:zV}{L:List (Nat×Obj)}{K:ϑ}{A:Ξ}{X:Ϥ}{Stop:(ϑ)->Ϛ->Ξ}
def wM(hn:c.n<=6)(hK:∀b,b<2->K b)(hJ:∀G f,J G f->GW G/\G.n=c.n){cf:Frame}{e:List Frame}(hk:∀W v,Mq c P0 G0 (λG f=>∃a,J a f/\G=a.round) L W v->Pm.Way prog true K A X Stop W (G (cf.finish (ϲ m)) e) v):∀(r k:Nat),k+r=c.n->∀(O:ϑ)(M:Δ)(U T v4 Q S v7 V R F s y w j z i o D H q E h l u t B p x g C:Θ),Mw c P0 G0 PB BL (λG f=>∃a,J a f/\G=carried a.MU k) L O M->
   Pm.Way prog true K A X Stop O (G ((base 28).at ⟨#[pT G0 0,U,T,.slice a3 m c3,v4,Q,S,v7,V,R,F,s,y,w,j,z,i,o,D,H,q,E,sT PB c.n c.n,ϲ c.n,ϲ k,h,l,u,t,B,p,x,g,C],[]⟩ [.code Cd,.inLoop Cd,.inBlock 0,.code IV]) (cf::e)) M:=by
 intro r;induction r with
 |zero=>
  intro k a0 O M U T v4 Q S v7 V R F s y w j z i o D H q E h l u t B p x g C hI;obtain rfl:k=c.n:=ω;simp only[Cd,IV,pZ,wZ,f28,yv];repeat refine wN ?_
  refine wR ?_;refine wV (.bool false) ?_;walk_nrm;repeat refine wN ?_
  refine wF ?_;refine au rfl (λ_=>stepG_exit rfl) ?_;repeat refine wN ?_
  refine wR ?_;refine wV (.slice a3 m c3) ?_;iterate 2 (walk_nrm;refine wV (ϲ m) ?_)
  walk_nrm;repeat refine wN ?_
  refine au rfl (λ_=>stepG_ret') ?_;refine zA rfl rfl rfl rfl rfl (hk O M (hI.e.b λG f hq=>?_));obtain⟨a,Z,rfl⟩:=hq;refine⟨a,Z,?_⟩;unfold Grp.round carried;rw[(hJ a f Z).2]
 |succ r ih=>
  intro k a0 O M U T v4 Q S v7 V R F s y w j z i o D H q E h l u t B p x g C hI;have d:k<c.n:=ω;have a5:k<c.n:=ω;have a6:0<=k:=ω;have a2:IntKind.i64.wrap ((k:Int)+1)=((k+1:Nat):Int):=by rw[IntKind.wrap_i64];omega
  obtain⟨LP,I⟩:∃LP,LP=Cd:=⟨_,rfl⟩;obtain⟨TL,P⟩:∃TL,TL=IV:=⟨_,rfl⟩;rw[<-I,<-P];rw[<-I,<-P]at ih;suffices hX:∀Y,Y=Cd->Pm.Way prog true K A X Stop O (G ((base 28).at ⟨#[pT G0 0,U,T,.slice a3 m c3,v4,Q,S,v7,V,R,F,s,y,w,j,z,i,o,D,H,q,E,sT PB c.n c.n,ϲ c.n,ϲ k,h,l,u,t,B,p,x,g,C],[]⟩ [.code Y,.inLoop LP,.inBlock 0,.code TL]) (cf::e)) M from hX LP I;intro Y hY;simp only[Cd,pZ,f28,yv]at hY;subst hY;repeat refine wN ?_
  refine wR ?_;refine wV (.bool true) ?_;walk_nrm;repeat refine wN ?_
  refine wT ?_;repeat refine wN ?_
  refine wR ?_;refine wV (pT PB k) ?_;walk_nrm;refine ag (v:=.pointer (some ⟨BL k,0,none⟩)) rfl rfl θ (λa4 N=>?_) ?_
  .obtain⟨-,sB,-,cB⟩:=(hI.rely hK N).a;have c5:=cB k d;exact⟨by go_simp,by simp[go_sem, *];exact .inl sB⟩
  walk_nrm;refine wV (.pointer (some ⟨BL k,0,none⟩)) ?_;walk_nrm;repeat refine wN ?_
  refine wR ?_;refine wV (pT G0 0) ?_;walk_nrm;refine wV (.pointer (some ⟨BL k,0,none⟩)) ?_;walk_nrm;refine dS rfl rfl θ rfl (fn:=f62) rfl κ rfl ?_;walk_nrm;refine Mw.b hI hK d (λG f hq=>?_) λW v a1=>?_;obtain⟨a,Z,rfl⟩:=hq;obtain⟨gw,e1⟩:=hJ a f Z;obtain⟨r1,r2⟩:=gw.round (i:=k) (by rw[e1];exact d);have h3:=(Md.ti a.MU (oI _) k).1;have h4:a.MU.c<=4000:=gw.lim;rw[Md.lj,if_neg ω];exact⟨r1,ω,r2⟩;rw[Frame.finish_at];walk_nrm;repeat refine wN ?_
  refine wR ?_;iterate 2 (refine wV (ϲ ((k+1:Nat):Int)) ?_;walk_nrm)
  repeat refine wN ?_
  refine au rfl (λ_=>stepG_inLoop) ?_;apply ih (k+1) ω W v;exact a1.d λG f⟨a,⟨G2,h2,e2⟩,e1⟩=>⟨G2,h2,by rw[e1,e2,Md.lU]⟩
end
end
end Go.Proofs.Y
namespace Go.Cr
section
open Go Go.Conc
open Go.Pm (Rely Guar Ev grow)
def KI(K0:ϑ)(H0:Nat->Option Obj)(O K:ϑ)(w:Δ):Prop:=∀b,K0 b->K b/\¬O b/\b<w.heap.size/\w.heap[b]?=H0 b
section
variable {K0:ϑ}{H0:Nat->Option Obj}{O K:ϑ}{A:Ξ}{X:Ϥ}{w wL w':Δ}{es:Array Event}{e0:Os×Array (Nat×ϝ)}
def KI.rely(h:KI K0 H0 O K w)(c:Rely O K A w wL):KI K0 H0 O K wL:=λb a=>⟨(h b a).1,(h b a).2.1,yg (h b a).2.2.1 c.size,(c.a b (.inr (h b a).1)).trans (h b a).2.2.2⟩
def KI.b(h:KI K0 H0 O K wL)(c:Guar O K X wL w' es):KI K0 H0 (grow O wL w') K w':=λb a=>⟨(h b a).1,λe=>e.elim (h b a).2.1 λe=>ϕ ((h b a).2.2.1),yg (h b a).2.2.1 c.size,(c.a b (h b a).2.2.1 (h b a).2.1).trans (h b a).2.2.2⟩
def KI.a(h:KI K0 H0 O K w){a:Addr}(d:¬K0 a.block)(v:Θ):KI K0 H0 O K (w.setCell a v):=λb c=>⟨(h b c).1,(h b c).2.1,by have:=(h b c).2.2.1;simpa using this,((aside_setCell w a v).block b λe=>d (e▸c)).trans (h b c).2.2.2⟩
end
def AU{g k c j:Ϛ}{w i:Δ}{f e:Array Event}(h:GStep.spawn g c w f=GStep.spawn k j i e):g=k/\c=j/\w=i/\f=e:=by injection h with a b c d;exact⟨a,b,c,d⟩
def aC.d{P:ϛ}{Y:ϟ}{y:Θ->Ξ}{H:Nat}{X:List bE}{A:nX}{O K:ϑ}{g:Ϛ}{w:Δ}(h:aC P Y y H X A O K g w){K0:ϑ}{H0:Nat->Option Obj}{e0:Os×Array (Nat×ϝ)}:KI K0 H0 O K w->(A≠.free->¬K0 H)->w.eo=e0->aC P Y (λv w'=>y v w'/\w'.eo=e0/\∀b,K0 b->w'.heap[b]?=H0 b) H X A O K g w:=by
 induction h with
 |idle d f _ p=>
  intro l n j;refine .idle d f λc t w' s a k=>?_;obtain⟨o,a0,a1,m,F⟩:=f c a;obtain⟨rfl,rfl,rfl⟩:=aF (m.symm.trans k);exact p c _ _ _ a k ((l.rely a).b F) n (F.d.trans (a.f.trans j))
 |fin d f=>
  intro l n j;refine .fin d λc a=>?_;obtain⟨v,s,m,F,e3⟩:=f c a;exact⟨v,s,m,F,e3,a.f.trans j,λb r=>(l.rely a b r).2.2.2⟩
 |enter E hW _ p=>
  intro l n j;exact .enter E hW (p (λb r=>⟨(l b r).1,λh=>(l b r).2.1 h.1,(l b r).2.2⟩) (λ_ r=>(l _ r).2.1 E) j)
 |kd d f _ p=>
  intro l n j;refine .kd d f λc t w' s a k=>?_;obtain⟨o,m⟩:=f c a;obtain⟨rfl,rfl,rfl⟩:=aF (m.symm.trans k);exact p c _ _ _ a k (l.rely a) (λ_=>n ς) (a.f.trans j)
 |add d x f _ p=>
  intro l n j;refine .add d x f λc t w' s v a C q k=>?_;obtain⟨o,m⟩:=f c a v C q;obtain⟨rfl,rfl,rfl⟩:=aF (m.symm.trans k);exact p c _ _ _ v a C q k ((l.rely a).a (n ς) _) (λ_=>n ς) (a.f.trans j)
 |en d f _ p=>
  intro l n j;refine .en d f λc t w' s a k=>?_;obtain⟨o,m⟩:=f c a;obtain⟨rfl,rfl,rfl⟩:=aF (m.symm.trans k);exact p c _ _ _ a k (l.rely a) (λ_=>n ς) (a.f.trans j)
 |go Q Bs R d x hB hR M f hc _ p=>
  intro l n j;refine .go Q Bs R d x hB hR M f hc λc t T w' s a k=>?_;obtain⟨o,G,m⟩:=f c a;obtain⟨rfl,rfl,rfl,rfl⟩:=AU (m.symm.trans k);exact p c _ _ _ _ a k (λb r=>⟨.inl (l.rely a b r).1,λh=>(l.rely a b r).2.1 h.1,(l.rely a b r).2.2⟩) (λ_=>n ς) (a.f.trans j)
 |wd d f _ p=>
  intro l n j;refine .wd d f λc t w' s a k=>?_;obtain⟨o,m⟩:=f c a;obtain⟨rfl,rfl,rfl⟩:=aF (m.symm.trans k);exact p c _ _ _ a k (l.rely a) (λ_=>n ς) (a.f.trans j)
 |ld d f _ _ S L=>
  intro l n j;refine .ld d f (λc t w' s a q k=>?_) λc t w' s v a h1 Z q k=>?_;obtain⟨o,m⟩:=f c a 0 (oI _) q;obtain⟨rfl,rfl,rfl⟩:=aF (m.symm.trans k);exact S c _ _ _ a q k (l.rely a) (λ_=>n ς) (a.f.trans j);obtain⟨o,m⟩:=f c a v Z q;obtain⟨rfl,rfl,rfl⟩:=aF (m.symm.trans k);exact L c _ _ _ v a h1 Z q k (l.rely a) (λ_=>n ς) (a.f.trans j)
 |cas d z u _ _ U N=>
  intro l n j;refine .cas d z u (λc t w' s a q k=>?_) λc t w' s v a C q k=>?_;obtain⟨o,m⟩:=z c a q;obtain⟨rfl,rfl,rfl⟩:=aF (m.symm.trans k);exact U c _ _ _ a q k ((l.rely a).a (n ς) _) (λ_=>n ς) (a.f.trans j);obtain⟨o,m⟩:=u c a v C q;obtain⟨rfl,rfl,rfl⟩:=aF (m.symm.trans k);exact N c _ _ _ v a C q k (l.rely a) (λ_=>n ς) (a.f.trans j)
 |sem d B D f _ p=>
  intro l n j;refine .sem d B D f λc t w' s a q k=>?_;obtain⟨o,m⟩:=f c a q;obtain⟨rfl,rfl,rfl⟩:=aF (m.symm.trans k);exact p c _ _ _ a q k ((l.rely a).a (n ς) _) (λ_=>n ς) (a.f.trans j)
 |l4 d f _ p=>
  intro l n j;refine .l4 d f λc t w' s a q k=>?_;obtain⟨o,m⟩:=f c a q;obtain⟨rfl,rfl,rfl⟩:=aF (m.symm.trans k);exact p c _ _ _ a q k (l.rely a) (λ_=>n ς) (a.f.trans j)
 |ke d f _ p=>
  intro l n j;refine .ke d f λc t w' s a k=>?_;obtain⟨o,m⟩:=f c a;obtain⟨rfl,rfl,rfl⟩:=aF (m.symm.trans k);exact p c _ _ _ a k (l.rely a) (λ_=>n ς) (a.f.trans j)
 |aq d f _ p=>
  intro l n j;refine .aq d f λc t w' s Os a hq W I k=>?_;obtain⟨o,m⟩:=f c a;obtain⟨rfl,rfl,rfl⟩:=aF (m.symm.trans k);exact p c _ _ _ Os a hq W I k (λb r=>⟨(l.rely a b r).1,λh=>h.elim (l.rely a b r).2.1 λ⟨i,hi,ho⟩=>(W i hi b ho).2.1 (l.rely a b r).1,(l.rely a b r).2.2⟩) (λe=>absurd rfl e) (a.f.trans j)
