import Derived.Test.YtoklolfaemhfnaaGreatDoorZbm
set_option maxRecDepth 100000
set_option maxHeartbeats 0
set_option linter.defProp false
open Go.Proofs.Tryz (prog)
namespace Go.Proofs.YtoklolfaemhfnaaGreatDoor
section
open Go.RowKit
open Go.ChangeMaps (setBlock)
open Md (PS Vote Bal Lft Wf MsgW Sends FrW)
variable {w w' wb:World}{F:Nat->Prop}{b X:Nat}{S S':PS}{o o1 o':Pl}{f:Codec.Frame}{m:Codec.Msg}{tv:Value}
def F6(p:PP w F b S o)(r:Wf S)(A:MsgW S.n m)(y:∃l n c,tv=.slice l n c)(a:Int):Calls prog 138 #[pT b 0,aU m tv,J a] w fun e q=>e=.returned (.tuple #[])/\∃d,To w F b o q (S.Ms m a) { o with g:=d }:=by
 obtain⟨s,u,g⟩:=A.s;obtain⟨l,v,z,rfl⟩:=y;refine(pG p.e m l v z a s u g r.num (by have:=r.a7;omega)).mono ?_;rintro e q ⟨rfl,j,d,k,t⟩;refine⟨rfl,d,p.step (j.e fun x _ i=>i.elim .inl fun i=>i.elim (fun e=>.inr (.inr (.inl e))) fun e=>.inr (.inr (.inr (.inl e)))) (fun _ h=>h) k (fun _ h=>.inl h) ?_ p.ms rfl rfl rfl⟩;have e:m.a.toNat=s:=by rw[g];rfl
 simp only[PS.Ms,PS.Ng,PS.Ml,e];exact t
def PP.a5(p:PP w F b S o)(j:∀x∈S.o,Md.eA m.a m.seq x=false)(e:aE w (o.R F b) tv m.c) :
 ∃k,(Instr.mapUpdate 156 (.map (some o.m)) (bQ m.a m.seq) (aU m tv)).run prog w=.ok () k/\∃t,To w F b o k { S with o:=S.o++[m] } t:=by
 have c:∀x∈o.l,gL m.a m.seq x.1=false:=fun x a=>j x.1 (by rw[<-p.ms];exact Hq a);have i:eB w F 3 1 tv _ _:=⟨e.d,fun g d=>(e.c g d).1⟩;obtain⟨s,q,r⟩:=p.e.a3 m tv c i fun g d n=>(e.c g d).2 (.inl (.inr (.inr (.inl n))));exact⟨_,s,_,p.step (cW.f q fun x a=>by injection a with a;subst a;exact .inr (.inl rfl)) (fun _ h=>.inl h) (fun _ h=>.inl h) (fun _ h=>.inl h) r (by rw[y8,p.ms];rfl) rfl rfl rfl⟩
def vz(b:Nat)(t:ByteArray)(v:Int)(j:¬v=0){Q:World->Prop}(g:Calls prog 136 #[pT b 0,.string t] w fun e a=>e=.returned (J v)/\Q a):Calls prog 97 #[pT b 0,.string t] w fun e a=>e=.returned (J v)/\Q a:=by
 have d:=ah g;clear g;go_enter Tryz.func97,Tryz.ntmps97
 go_wp2_with fail
 refine d.out.mono ?_;rintro e h ⟨rfl,c⟩;have i:Hid (Q h):=c;clear c d;go_wp2_with fail
 go_ret;exact⟨rfl,i.out⟩
def vX{t:ByteArray}(h:S.Mf t=0):S.MC=0/\S.h=false/\S.Ml.getD S.c 0<20:=by
 unfold PS.Mf at h;by_cases a:S.MC=0
 ·rw[if_neg (by simp[a])] at h;by_cases d:16<t.size
  ·rw[if_pos d] at h;cases h
  ·rw[if_neg d] at h;cases c:S.h
   ·rw[c] at h;refine⟨a,rfl,?_⟩;by_cases e:20<=S.Ml.getD S.c 0
    ·simp only[yH,if_false] at h;rw[if_pos e] at h;cases h
    ·omega
   ·rw[c] at h;cases h
 ·rw[if_pos a] at h;exact absurd h a
def E0{l:List Codec.Msg}(h:∀x∈l,Md.eA m.a m.seq x=false):PS.put l m=l++[m]:=by
 unfold PS.put;rw[if_neg];intro e;obtain⟨x,c,a⟩:=List.any_eq_true.1 e;rw[h x c] at a;cases a
def PP.j(p:PP w F b S o){a:Array Value}(h:af w X 179 a):¬o.M b X:=p.a0 h (.inr (.inl rfl))
def FZ(p:PP w F b S o)(u:Wf S)(t:ByteArray)(ht:t.size<=16)(hs:S.e.length<=900000)(B:S.Mf t=0->∀x∈S.o,Md.eA (S.Ma t).a (S.Ma t).seq x=false):Do 97 #[pT b 0,.string t] (J (S.Mf t)) w F b o (S.cast t):=by
 by_cases N:S.Mf t=0
 ·have B:=B N;obtain⟨-, -,a5⟩:=vX N;have V:=u.u t a5;have j:Wf (S.Ms (S.Ma t) 1):=(u.k u.num rfl rfl (by show S.Ml.getD S.c 0+1<=20;omega) 1).1;have a8:=V.t;have P:S.cast t=S.L8.foldl (fun T q=>T.MN q (S.Ma t)) (S.MV (S.Ma t)):=by unfold PS.cast;rw[if_pos N];rfl
  have a0:S.MV (S.Ma t)=({ S.Ms (S.Ma t) 1 with o:=S.o++[S.Ma t] }:PS).M1:=by
   show ({ S.Ms _ 1 with o:=PS.put _ _ }:PS).M1=_;rw[show (S.Ms (S.Ma t) 1).o=S.o from rfl,E0 B]
  have a1:Wf ({ S.Ms (S.Ma t) 1 with o:=S.o++[S.Ma t] }:PS):=⟨j.c,j.num,j.a,j.kn,fun m hm=>by
   rcases yz.1 hm with hm|hm
   ·exact u.ms m hm
   ·rw[yu] at hm;subst hm;exact V,j.view,j.mem,j.sus,j.h,j.prom,j.vote,j.lead,j.left,j.t⟩
  have a6:Wf (S.MV (S.Ma t)):=by rw[a0];exact a1.j
  have E:S.L8.length<=6:=yr (gG _ S.n) u.c;have b5:(S.MV (S.Ma t)).e=S.e:=rfl;have a7:(S.MV (S.Ma t)).L8=S.L8:=rfl;rw[N,P];have c0:S.Ma t=⟨S.c,S.Ml.getD S.c 0+1,S.Ml.set S.c (S.Ml.getD S.c 0+1),t⟩:=rfl;have HN:∀w1,Below w w w1->Calls prog 137 #[pT b 0,.string t] w1 fun e r=>∃g a,e=.returned (aU (S.Ma t) (sT g S.n a))/\Below w w r/\eB r (fun x=>w.heap.size<=x) 3 1 (sT g S.n a) S.n (ints (S.Ma t).c):=fun w1 A=>by
   refine(wD u.num u.c (p.c A).e (fun q Z=>u.g.at Z) t ω).mono ?_;rintro e r ⟨g,a,rfl,i,s⟩;exact⟨g,a,rfl,A.trans (s.mono A.size),i.d,fun g' O=>yr A.size (i.c g' O)⟩
  generalize b7:S.Ma t=M at *;refine(rM b o.m S.n t M S.L8 E w (fun _=>False) (fun w1=>Below w w w1)
   (fun r g a=>Below w w r/\eB r (fun x=>w.heap.size<=x) 3 1 (sT g S.n a) S.n (ints M.c))
   (fun X g a w4=>w.heap.size<=X/\af w4 X 179 #[J M.a,J M.seq,sT g S.n a,.string M.b]/\∃y,To w F b o w4 (S.Ms M 1) { o with g:=y }/\aE w4 (({ o with g:=y }:Pl).R F b) (sT g S.n a) M.c)
   (fun X g a w6=>w.heap.size<=X/\af w6 X 179 #[J M.a,J M.seq,sT g S.n a,.string M.b]/\∃z,To w F b o w6 { S.Ms M 1 with o:=S.o++[M] } z/\aE w6 (z.R F b) (sT g S.n a) M.c)
   (fun X g a w7=>w.heap.size<=X/\af w7 X 179 #[J M.a,J M.seq,sT g S.n a,.string M.b]/\∃z,To w F b o w7 (S.MV M) z/\aE w7 (z.R F b) (sT g S.n a) M.c)
   (fun X g a ao k G=>w.heap.size<=X/\af G X 179 #[J M.a,J M.seq,sT g S.n a,.string M.b]/\∃z,To w F b o G (aG (fun T q=>T.MN q M) S.L8 (S.MV M) k) z/\aE G (z.R F b) (sT g S.n a) M.c/\∃vv,eB G (z.R F b) 3 1 vv S.L8.length (cz S.L8)/\∃c,vv=.slice ao S.L8.length c)
   (fun w9=>∃z,To w F b o w9 (S.L8.foldl (fun T q=>T.MN q M) (S.MV M)) z)
   ?_ ?_ ?_ ?_ ?_ ?_ ?_ ?_ ?_).mono ?_
  ·refine(qa p u t ht).mono ?_;rintro e w1 ⟨rfl,A⟩;rw[N];exact .inr (.inr ⟨rfl,A⟩)
  ·exact HN
  ·rintro r g a ⟨s,i⟩;have a2:Below r r (r.alloc (.cells #[J M.a,J M.seq,sT g S.n a,.string M.b] 179)):=(Below.refl _ _).alloc (yb _) _;have A:=s.trans (a2.mono s.size);have d:=af.d r r.heap.size rfl 179 #[J M.a,J M.seq,sT g S.n a,.string M.b];have p3:=p.c A;refine(F6 p3 u V ⟨_,_,_,rfl⟩ 1).mono ?_;rintro e w4 ⟨rfl,y,Q⟩;have b2:aE (r.alloc (.cells #[J M.a,J M.seq,sT g S.n a,.string M.b] 179)) (o.R F b) (sT g S.n a) M.c:=by
    rw[aE,a8];exact⟨aj i.d fun x hx=>a2.block x (i.k hx),fun x hx=>p.g (i.c x hx)⟩
   exact⟨rfl,s.size,(Q.e.block _ d.f (p3.j d)).trans d,y,(p.d A).a Q,b2.f Q.d⟩
  ·rintro X g a w4 ⟨C,d,y,Q,b4⟩ w5 W;have h5:=Q.a (Q.c.d W);have a3:=b4.f (Q.c.d W).d;have l:=d.c W d.f;obtain⟨w6,hu,o6,L⟩:=h5.c.a5 (m:=M) B a3;refine⟨h5.c.a.a 15 _ rfl,l,w6,hu,C,(L.e.block X l.f (h5.c.j l)).trans l,o6,h5.a L,a3.f L.d⟩
  ·rintro X g a w6 ⟨C,d,o6,L,b1⟩;rw[a0];refine(rT L.c a1).mono ?_;rintro e w7 ⟨rfl,o7,D⟩;exact⟨rfl,C,(D.e.block X d.f (L.c.j d)).trans d,o7,L.a D,b1.f D.d⟩
  ·rintro X g a w7 ⟨C,d,o7,D,b3⟩;have:=nm D.c a6;rw[a7] at this;refine this.mono ?_;rintro e G ⟨v,rfl,H,U⟩;obtain⟨ao,c,b6⟩:=bG H;subst b6;exact⟨ao,c,rfl,C,d.c U d.f,o7,D.a (D.c.d U),b3.f (D.c.d U).d,_,wG (fun x hx=>D.c.g hx) H,c,rfl⟩
  ·rintro X g a ao k G ⟨C,d,o8,h8,K,vv,i,c,rfl⟩;refine⟨d,fun q Z=>?_⟩;obtain⟨b8,c',b0,Y⟩:=fN (w':=G) i.d fun _ _ _=>rfl;injection b0 with e1 _ _;subst e1;obtain⟨g',O,a9⟩:=Y k q Z;exact⟨g',O,a9⟩
  ·rintro X g a ao k G q ⟨C,d,o8,h8,K,vv,i,c,rfl⟩ Z;have a4:Sends (S.MV M) (aG (fun T q=>T.MN q M) S.L8 (S.MV M) k) k:=fa (fun T q=>Md.ak T _) _ k;have b9:k<6:=yg (ym.1 Z).1 E;refine(nU h8.c (a4.d a6) (by have h1:=a4.b;have h2:=congrArg List.length b5;omega) q M (aX K.d)).mono ?_;rintro e w9 ⟨rfl,o9,I⟩;refine⟨rfl,C,(I.e.block X d.f (h8.c.j d)).trans d,o9,?_,K.f I.d,_,i.f I.d,c,rfl⟩;rw[jb Z];exact h8.a I
  ·rintro X g a ao w9 ⟨C,d,o9,I, -⟩;rw[iH] at I;exact⟨o9,I⟩
  ·rintro e w' (⟨-,h⟩|⟨rfl,h⟩)
   ·exact h.elim
   ·exact⟨rfl,h⟩
 ·have hc:S.cast t=S:=by unfold PS.cast;rw[if_neg N]
  rw[hc];refine(vz b t (S.Mf t) N (Q:=fun w'=>Below w w w') (qa p u t ht)).mono ?_;rintro e w' ⟨rfl,A⟩;exact⟨rfl,o,p.d A⟩
end
section
open Go.RowKit
open Go.Pm (Perm)
open Go.Cr (fam)
open Md (PS Grp Wf GW)
variable {w w' w1 w2:World}{gb pb:Nat}{bl:Nat->Nat}{Fp:Nat->Nat->Prop}{Fn:Nat->Prop}{G G1 G2:Grp}{nv:Value}{FG:Nat->Prop}{i:Nat}{k j:Nat}{x:bC}
def GQ.h(g:GQ w gb pb bl Fp Fn G nv)(o:i<G.n){f:FuncId}(q:fam f=true)(l:fam.leaf f=false)(args:List Value)(a:∀v∈args,∀d:Perm,v.pm d=v){v:Value}(s:∀d:Perm,v.pm d=v){S':PS}
 (r:∀h b c m,PP h b c (G.b i) m->CH h->¬b 1->Do f (Value.pointer (some ⟨c,0,none⟩)::args).toArray v h b c m S') :
 Calls prog f (Value.pointer (some ⟨bl i,0,none⟩)::args).toArray w fun e p=>e=.returned v/\cW (Fp i) w p/\PK p (aY (Fp i) w) (bl i) S':=K2 q l args a s r (g.c i o) (g.q i o)
def GQ.m(g:GQ w gb pb bl Fp Fn G nv)(d:∀x,Wh gb pb G.n Fp Fn x->FG x)(e:i<G.n)(a:cW (Fp i) w w1){S:PS}(l:PK w1 (aY (Fp i) w) (bl i) S):GT w w1 FG gb (G.Nk i S):=by
 obtain⟨c,m,b⟩:=g.put e a l;exact⟨a.e fun x _ h=>d x (.inr (.inr (.inr ⟨i,e,h⟩))),pb,bl,c,Fn,nv,m,fun x f=>(b x f).imp (d x) id⟩
def GQ.v(g:GQ w gb pb bl Fp Fn G nv)(a:i<G.n)(b:Wf (G.b i)):(G.b i).o.length<=126:=by
 obtain⟨o,p⟩:=g.c i a;exact p.h.u b
def vM(g:GY w FG gb G):Calls prog 41 #[pT gb 0] w fun e a=>e=.returned (J G.a.length)/\a=w:=by
 obtain⟨d,f,c,m,l,g, -⟩:=g;have b:=ah (wC g.net);clear g;go_enter Tryz.func41,Tryz.ntmps41
 go_wp2_with fail
 refine b.out.mono ?_;rintro e h ⟨rfl,rfl⟩;go_wp2_with fail
 go_ret;simp
def Gf(m:GW G)(B:GY w FG gb G)(b:i<G.n):Calls prog 40 #[pT gb 0,J i] w fun e E=>e=.returned (J (G.b i).MC)/\GT w E FG gb (G.tick i):=by
 obtain⟨u,s,S,U,V,g,t⟩:=B;have o:=m.a i b;have h:=m.snt i b;have r:=g.v b o;have f:=o.c;have d:=Md.Bq f;unfold Md.cS at d;rw[h] at d;have y:=ah (mu i _ _ g.c0 b);have A:Hid (Calls prog 71 #[.pointer (some ⟨s i,0,none⟩)] w fun e q=>e=.returned (J (G.b i).MC)/\(q.cell? (aT gb 0)=some (sT u G.n G.n)/\q.cell? (aT u i)=some (.pointer (some ⟨s i,0,none⟩)))/\Calls prog 62 #[pT gb 0,.pointer (some ⟨s i,0,none⟩)] q fun e z=>e=.returned (.tuple #[])/\GT w z FG gb (G.tick i)):=by
  refine(g.h b rfl rfl [] ς ς fun Y T X N p F D=>AB p o F ν).mono ?_;rintro e q ⟨rfl,c,K⟩;exact⟨rfl,⟨g.a0 b c,g.y b c⟩,g.f t b c K (by have D:=m.net;have W:=m.lim;grind)⟩
 have R:=g.c0;have M:=g.b b;have H:0<=i:=ω;have C:i<G.n:=ω;clear g t d o h r f;go_enter Tryz.func40,Tryz.ntmps40
 go_wp2_with fail
 refine y.out.mono ?_;rintro e z ⟨rfl,rfl⟩;go_wp2_with fail
 refine A.out.mono ?_;rintro e P ⟨rfl,⟨L,Q⟩,a⟩;have l:=ah a;clear a A y;go_wp2_with fail
 refine l.out.mono ?_;rintro e O ⟨rfl,v⟩;have I:=ah v;clear v l;go_wp2_with fail
 go_ret;exact⟨rfl,I.out⟩
def Aj(m:GW G)(C:GY w FG gb G)(b:i<G.n)(t:ByteArray)(E:t.size<=16)(f:(G.b i).Mf t=0->∀x∈(G.b i).o,Md.eA ((G.b i).Ma t).a ((G.b i).Ma t).seq x=false):Calls prog 56 #[pT gb 0,J i,.string t] w fun e H=>e=.returned (J ((G.b i).Mf t))/\GT w H FG gb (G.cast i t):=by
 obtain⟨y,q,T,V,X,g,u⟩:=C;have r:=m.a i b;have h:=m.snt i b;have d:=Md.Bp r.c t;unfold Md.cS at d;rw[h] at d;have A:=ah (mu i _ _ g.c0 b);have s:Hid (Calls prog 97 #[.pointer (some ⟨q i,0,none⟩),.string t] w fun e o=>e=.returned (J ((G.b i).Mf t))/\(o.cell? (aT gb 0)=some (sT y G.n G.n)/\o.cell? (aT y i)=some (.pointer (some ⟨q i,0,none⟩)))/\Calls prog 62 #[pT gb 0,.pointer (some ⟨q i,0,none⟩)] o fun e B=>e=.returned (.tuple #[])/\GT w B FG gb (G.cast i t)):=by
  refine(g.h b rfl rfl _ ς ς fun w0 U Z O p W F=>FZ p r t E ν f).mono ?_;rintro e o ⟨rfl,c,L⟩;exact⟨rfl,⟨g.a0 b c,g.y b c⟩,g.f u b c L (by have F:=m.net;have Y:=m.lim;grind)⟩
 have S:=g.c0;have N:=g.b b;have I:0<=i:=ω;have D:i<G.n:=ω;clear g u d r h f;generalize (G.b i).Mf t=v at s ⊢;go_enter Tryz.func56,Tryz.ntmps56
 go_wp2_with fail
 refine A.out.mono ?_;rintro e B ⟨rfl,rfl⟩;go_wp2_with fail
 refine s.out.mono ?_;rintro e Q ⟨rfl,⟨M,R⟩,a⟩;have l:=ah a;clear a s A;go_wp2_with fail
 refine l.out.mono ?_;rintro e P ⟨rfl,z⟩;have K:=ah z;clear z l;go_wp2_with fail
 go_ret;exact⟨rfl,K.out⟩
def pQ(c:GW G)(A:GY w FG gb G)(b:i<G.n){q:Nat}(m:q<G.n):Calls prog 32 #[pT gb 0,J i,J q] w fun e C=>e=.returned (J (if q=i then 5 else (G.b i).MC))/\GT w C FG gb (G.suspect i q):=by
 obtain⟨M,D,Q,S,U,g,o⟩:=A;have r:=c.a i b;have a:=c.num i b;have h:=yg m c.b;have d:=ah (fun j y=>mu j _ _ g.c0 y);have z:=ah m;have u:=ah b;have l:Hid (Calls prog 65 #[.pointer (some ⟨D i,0,none⟩),J q] w fun e s=>e=.returned (J (if q=i then 5 else (G.b i).MC))/\GT w s FG gb (G.suspect i q)):=by
  refine(g.h b rfl rfl _ ς ς fun X R W K p T P=>wX p r h).mono ?_;rintro e s ⟨rfl,f,H⟩;rw[a];exact⟨rfl,g.m o b f H⟩
 have O:=g.c0;have I:=g.b b;have E:0<=i:=ω;have B:i<G.n:=ω;clear g o r a;generalize (if q=i then 5 else (G.b i).MC)=v at l ⊢;go_enter Tryz.func32,Tryz.ntmps32
 go_wp2_with fail
 refine(d.out i u.out).mono ?_;rintro e V ⟨rfl,rfl⟩;go_wp2_with fail
 refine(d.out q z.out).mono ?_;rintro e N ⟨rfl,rfl⟩;clear d;go_wp2_with fail
 refine l.out.mono ?_;rintro e L ⟨rfl,t⟩;have F:=ah t;clear t l;go_wp2_with fail
 go_ret;exact⟨rfl,F.out⟩
def Et(l:GY w FG gb G)(a:i<G.n):Calls prog 39 #[pT gb 0,J i] w fun e o=>e=.returned (J (if (G.b i).f then 6 else 0))/\GT w o FG gb (G.crash i):=by
 obtain⟨B,q,D,H,K,g,d⟩:=l;have r:=ah (mu i _ _ g.c0 a);have c:Hid (Calls prog 70 #[.pointer (some ⟨q i,0,none⟩)] w fun e f=>e=.returned (J (if (G.b i).f then 6 else 0))/\GT w f FG gb (G.crash i)):=by
  refine(g.h a rfl rfl [] ς ς fun N F M y p I E=>Ek p).mono ?_;rintro e f ⟨rfl,b,u⟩;exact⟨rfl,g.m d a b u⟩
 have C:=g.c0;have z:=g.b a;have s:0<=i:=ω;have m:i<G.n:=ω;clear g d;generalize (if (G.b i).f=true then (6:Int) else 0)=v at c ⊢;go_enter Tryz.func39,Tryz.ntmps39
 go_wp2_with fail
 refine r.out.mono ?_;rintro e L ⟨rfl,rfl⟩;go_wp2_with fail
 refine c.out.mono ?_;rintro e A ⟨rfl,h⟩;have t:=ah h;clear h c;go_wp2_with fail
 go_ret;exact⟨rfl,t.out⟩
def GY.b(g:GQ w gb pb bl Fp Fn G nv)(e:∀x,Wh gb pb G.n Fp Fn x->FG x)(c:cW (fun x=>Fn x\/x=gb) w w'){a:List bC}{b:Value}(l:cY w' (aY Fn w) gb (sT pb G.n G.n) G.c a b):GT w w' FG gb { G with a:=a }:=by
 obtain⟨d,o,m⟩:=g.l c l;refine⟨c.e fun x _ h=>e x ?_,pb,bl,Fp,d,b,o,fun x f=>?_⟩
 ·rcases h with h|h
  ·exact .inr (.inr (.inl h))
  ·exact .inl h
 ·exact(Wh.a m x f).imp (e x) id
def Gc(l:GY w FG gb G)(p:G.a.length<=1000000)(k:Nat)(x:bC)(n:G.a[k]?=some x):Calls prog 80 #[pT gb 0,J k] w fun e a=>e=.returned (J 0)/\GT w a FG gb (G.drop k):=by
 obtain⟨r,u,t,y,s,g,d⟩:=l;have f:Hid (Calls _ 73 _ w fun e a=>e=.returned _/\GT w a FG gb _):=(qd g.net p k x n).mono fun e a h=>⟨h.1,by
  obtain⟨-,b,q,m⟩:=h;exact GY.b g d b (m.d aY.c)⟩
 clear g d;go_enter Tryz.func80,Tryz.ntmps80
 go_wp2_with fail
 refine f.out.mono ?_;rintro e v ⟨rfl,c⟩;have o:=ah c;clear c f;go_wp2_with fail
 go_ret;exact⟨rfl,o.out.b ((Below.refl _ _).alloc (yb _) _)⟩
def F5(a:G.a[k]?=some x):G.copy k={ G with a:=je G.c G.a x }:=by
 unfold Grp.copy;rw[a];rfl
def Gb(m:GY w FG gb G)(p:G.a.length<=1000000)(k:Nat)(x:bC)(f:G.a[k]?=some x):Calls prog 82 #[pT gb 0,J k] w fun e a=>e=.returned (J 0)/\GT w a FG gb (G.copy k):=by
 obtain⟨r,u,t,y,s,g,d⟩:=m;have l:Hid (Calls _ 125 _ w fun e a=>e=.returned _/\GT w a FG gb (G.copy k)):=(zr g.net p k x f).mono fun e a h=>⟨h.1,by
  obtain⟨-,b,q,n⟩:=h;rw[F5 f];exact GY.b g d b n⟩
 clear g d;go_enter Tryz.func82,Tryz.ntmps82
 go_wp2_with fail
 refine l.out.mono ?_;rintro e v ⟨rfl,c⟩;have o:=ah c;clear c l;go_wp2_with fail
 go_ret;exact⟨rfl,o.out⟩
def x5(p:GY w FG gb G)(k:Nat)(x:bC)(r:G.a[k]?=some x)(i m:Nat)(q:i<x.2.size)(d:1<=m)(b:m<=255)(c:x.2.size<=1000000):Calls prog 85 #[pT gb 0,J k,J i,J m] w fun e a=>e=.returned (J 0)/\GT w a FG gb { G with a:=G.a.set k (x.1,cP x.2 i m) }:=by
 obtain⟨u,y,v,z,A,g,l⟩:=p;have o:Hid (Calls _ 127 _ w fun e a=>e=.returned _/\GT w a FG gb _):=(qQ g.net k x r i m q d b c).mono fun e a h=>⟨h.1,by
  obtain⟨-,f,s⟩:=h;exact GY.b g l (f.e fun x _ h=>.inl h) (s.d aY.c)⟩
 clear g l;go_enter Tryz.func85,Tryz.ntmps85
 go_wp2_with fail
 refine o.out.mono ?_;rintro e B ⟨rfl,n⟩;have t:=ah n;clear n o;go_wp2_with fail
 go_ret;exact⟨rfl,t.out⟩
def Eu(b:GY w FG gb G)(k:Nat)(x:bC)(d:G.a[k]?=some x):Calls prog 96 #[pT gb 0,J k] w fun e c=>e=.returned (.tuple #[.string x.2,J 0])/\c=w:=by
 obtain⟨h,n,m,p,l,g,a⟩:=b;have f:=ah (wB g.net k x d);clear g a;go_enter Tryz.func96,Tryz.ntmps96
 go_wp2_with fail
 refine f.out.mono ?_;rintro e o ⟨rfl,rfl⟩;go_wp2_with fail
 go_ret2
 simp
def pH(a:G.a[k]?=some x)(b:x.1=(j:Int)):G.deliver k=((G.drop k).Nk j ((G.b j).Mn x.2.data.toList)).MB j:=by
 unfold Grp.deliver;rw[a];simp only[b,CM];rfl
def pP(r:GW G)(gx:GY w FG gb G)(k:Nat)(x:bC)(Q:G.a[k]?=some x)(V:x.1=(j:Int))(m:j<G.n)(D:x.2.size<=1000000):Calls prog 42 #[pT gb 0,J k] w fun e E=>e=.returned (J 0)/\GT w E FG gb (G.deliver k):=by
 obtain⟨s,u,y,Fn,nv,g,K⟩:=gx;obtain⟨x1,d⟩:=x;simp only at V D;subst V;have hl:G.a.length<=1000000:=by have h1:=r.net;have h2:=r.lim;omega
 have M:=r.a j m;have z:=r.snt j m;have t:=Md.nE M.c d.data.toList;unfold Md.cS at t;rw[z] at t;have T:Hid (Calls prog 73 #[pT gb 1,J k] w fun e E=>e=.returned (.tuple #[.agg #[J j,.string d],J 0])/\cW FG w E/\∃a b,GQ E gb s u y a (G.drop k) b/\∀x,Wh gb s G.n y a x->aY FG w x):=(qd g.net hl k _ Q).mono fun e E h=>⟨h.1,by
  obtain⟨-,q,b,R⟩:=h;have N:=GY.b g K q (R.d aY.c);obtain⟨a,g',hF⟩:=g.l q (R.d aY.c);exact⟨N.1,a,b,g',fun x hx=>(Wh.a hF x hx).imp (K x) id⟩⟩
 have L:Hid (∀F,(cW FG w F/\∃a b,GQ F gb s u y a (G.drop k) b/\∀x,Wh gb s G.n y a x->aY FG w x)->∀v,Below F F v->v.cell? (aT gb 0)=some (sT s G.n G.n)/\v.cell? (aT s j)=some (.pointer (some ⟨u j,0,none⟩))/\Calls prog 74 #[.pointer (some ⟨u j,0,none⟩),.string d] v fun e c=>e=.returned (.tuple #[])/\Calls prog 62 #[pT gb 0,.pointer (some ⟨u j,0,none⟩)] c fun e P=>e=.returned (.tuple #[])/\GT w P FG gb (G.deliver k)):=fun F ⟨q,a,b,g1,H⟩ v S=>by
  have C:=g1.o S;refine⟨C.c0,C.b m,?_⟩;refine(C.h (i:=j) m (f:=74) rfl rfl [.string d] ς (v:=.tuple #[]) ς (S':=(G.b j).Mn d.data.toList) fun w0 F0 b0 o0 p hT h1=>rI (S:=G.b j) p M d.data.toList (by have:d.data.toList.length=d.size:=rfl;omega) ν).mono ?_;rintro e c ⟨rfl,B,O⟩;refine⟨rfl,(C.f H (i:=j) m B O ?_).mono ?_⟩
  ·have h1:(G.drop k).a.length<=G.a.length:=List.length_eraseIdx_le _ _;have h2:=r.net;have h3:=r.lim;grind
  ·rintro e P ⟨rfl,h⟩;rw[pH Q rfl];exact⟨rfl,GT.a (G1:=G.drop k) ⟨q.c (cW.d S),s,u,y,a,b,C,H⟩ h⟩
 clear g K Q t M z r hl D;generalize G.deliver k=Z at L ⊢;go_enter Tryz.func42,Tryz.ntmps42
 go_wp2_with fail
 refine T.out.mono ?_;rintro e c ⟨rfl,A⟩;have f:=L.out c A;have I:Hid (Below c c (c.alloc (.cells #[J j,.string d] 111))):=(Below.refl _ _).alloc (yb _) _;obtain⟨c0,p0, -⟩:=f _ I.out;have o:Hid _:=f;have a1:0<=j:=ω;have a0:j<G.n:=ω;clear A T L f;have U:(c.alloc (.cells #[J j,.string d] 111)).cell? (aT c 0)=some (J j):=(by simp);have Y:(c.alloc (.cells #[J j,.string d] 111)).cell? (aT c 1)=some (.string d):=(by simp);go_wp2_with fail
 generalize hX:c.heap.size=X at U Y I o ⊢;generalize (c.alloc _)=v at U Y c0 p0 I ⊢;clear hX;go_quiet (fail)
 go_wp2_with fail
 refine(o.out _ (below_drewN I.out _)).2.2.mono ?_;rintro e P ⟨rfl,l⟩;have W:=ah l;clear l o;go_wp2_with fail
 refine W.out.mono ?_;rintro e w4 ⟨rfl,A⟩;have HR:=ah A;clear A W;go_wp2_with fail
 go_ret;exact⟨rfl,HR.out⟩
open Go.ChangeMaps (setBlock)
variable {n win lim:Nat}{st:Nat->vj}{pl:List bC}{F:Nat->Prop}{evs:List Ev}
def vI(l:List Ev):(az l).length=l.length * 6:=by
 induction l with
 |nil=>rfl
 | cons e l a =>
   rw[az,List.flatMap_cons,yC,<-az,a,yx];show 6+_=_;omega
def qH(g c:Nat)(a:List Ev)(w:World)(m:∀j u,(az a)[j]?=some u->w.cell? (aT g j)=some u)(z:a.length<=300000000000):Calls prog 107 #[sT g a.length c] w fun e h=>∃v,e=.returned v/\h.ownsRow w 64 6 v a.length (az a)/\Below w w h:=by
 obtain⟨p,s,l,o,i⟩:=info_parts mw;have q:Hid ((w.alloc (.cells #[] 64)).ownsRow w 64 6 (sT w 0 0) 0 []):=⟨rfl,.inr ⟨_,_,#[],rfl,yb _,heap_alloc_new w _,yb _,oI _,rfl,rfl⟩⟩;have r:=ah (fun j u f=>(((yi w.heap.size w).alloc (yb _) (.cells #[] 64)).cell (p:=(aT g j)) (yI w _ (m j u f))).trans (m j u f));have t:=ah (vI a);have k:=fun h:World=>Lib.run_eql_slice_nil h 35 64 (some ⟨g,0,none⟩) a.length c 0 0 Tryz.underlying35;simp only[Option.isNone_some] at k;clear m;go_enter Tryz.func107,Tryz.ntmps107
 go_wp2_with (at_builtin;refine wpList_append_own_at _ rfl _ _ 35 rfl _ 64 p _ 6 56 Tryz.underlying35 s l o i rfl θ _ _ _ rfl q.out _ _ c (az a) rfl ?c0 ?c1 ?c2 ?c3 ?c4 ?c5 ?_)
 case c0=>rw[t.out]
 case c1=>intro j u f;rw[lu];exact r.out j u f
 case c2=>
  intro u b;rw[az,Km] at b;obtain⟨e, -,b⟩:=b;simp only[Ev.f,yF,List.mem_nil_iff,or_false] at b;rcases b with rfl|rfl|rfl|rfl|rfl|rfl <;> rfl
 case c3=>unfold maxLen;omega
 case c4=>omega
 case c5=>simp
 intro v B y d _ _;go_wp2
 go_ret;refine⟨v,rfl,?_,?_⟩
 ·simpa using y
 ·exact((yi _ _).alloc (yb _) _).trans ⟨d.os,d.tape,d.output,d.size,fun x A=>d.block x (by simp;omega) (fun e=>by injection e with e;simp at e;omega)⟩
def qG(w:World):Calls prog 107 #[sN] w fun e a=>e=.returned (sN)/\a=w:=by
 have b:=fun a:World=>Lib.run_eql_slice_nil a 35 64 none 0 0 0 0 Tryz.underlying35;simp only[Option.isNone_none] at b;go_enter Tryz.func107,Tryz.ntmps107
 go_wp2_with fail
 go_ret;exact⟨rfl,rfl⟩
def vC{v:Value}(r:eB w F 64 6 v evs.length (az evs))(i:evs.length<=300000000000):Calls prog 107 #[v] w fun e d=>∃f,e=.returned f/\d.ownsRow w 64 6 f evs.length (az evs)/\Below w w d:=by
 rcases r.d.2 with ⟨k,a⟩|⟨g,c,l,a, -⟩
 ·rw[k];refine(qG w).mono ?_;rintro e d ⟨rfl,rfl⟩;refine⟨_,rfl,?_,yi _ _⟩;have:=List.length_eq_zero_iff.1 a;rw[this];exact y9 _ _ _ _
 ·have b:v.ownBlock=some g:=by rw[a];rfl
  rw[a];exact qH g c evs w (fun j u h=>by have:=r.d.cells b j u h;rwa [lu] at this) i
def BW{b:Nat}{h:Hd}{x:List (List Int)}{l:aL}{c:List bC}{t m:Nat}{f:List Nat}{s:Array MapEntry}{d:Nat}{o q:Value}(p:PA w F b h x l evs c t m f s d o q)(r:evs.length<=300000000000):Calls prog 66 #[pT b 0] w fun e j=>∃k,e=.returned k/\j.ownsRow w 64 6 k evs.length (az evs)/\Below w w j:=by
 have i:=ah (vC p.c r);have a:=p.a.a 17 _ rfl;simp only[Hd.c,yf,yd,ye] at a;clear p;go_enter Tryz.func66,Tryz.ntmps66
 go_wp2_with fail
 refine i.out.mono ?_;rintro e y ⟨v,rfl,g⟩;have u:Hid _:=g;clear g i;go_wp2_with fail
 go_ret;exact⟨v,rfl,u.out⟩
variable {b:Nat}{h:Hd}{kn:List (List Int)}{l:aL}{snt:List bC}{kb mb:Nat}{rbs:List Nat}{es:Array MapEntry}{clk:Nat}{ev sv:Value}

end
section
open Go.RowKit
open Go.ChangeMaps (setBlock)
def bB(n:Nat):vj:=⟨List.replicate n (List.replicate n 0),[],[]⟩
def rZ{n i:Nat}(a:i<n):(bB n).b.getD i []=List.replicate n 0:=by
 rw[bB,yj,yaW,if_pos a];rfl
def vB{n:Nat}{cs:Array Value}{rbs:List Nat}{f:Nat->Value}(a:cs.size=n)(d:rbs.length=n)(h:∀(q r:Nat),rbs[q]?=some r->cs[q]?=some (f r)):(rbs.map f).toArray=cs:=by
 apply Array.ext
 ·simp[a,d]
 ·intro q e c;have b:q<rbs.length:=ω;have:=h q _ (yh b);rw[yl c] at this;simp at this;simp[this]
def zu(p n B:Nat)(w:World)(hn:n<=6):Calls prog 69 #[J p,J n,J B] w fun e P=>∃b,e=.returned (pT b 0)/\PX P (fun x=>w.heap.size<=x/\x<P) b (cZ p n B) (bB n).b (bB n).c (bB n).a []/\Below w w P:=by
 have b1:=EO n hn;have b5:=fun u:World=>run_makeMap_plain (P:=prog) u 156;obtain⟨i0,hi,b6,b7,b4⟩:=info_parts vR;go_enter Tryz.func69,Tryz.ntmps69
 go_upto_region 1 with fail
 go_cut [7] (fun s Z=>∃b v D,s=pT b 0/\w.heap.size<=b/\w.heap.size<=v/\w.heap.size<=D/\af Z b 159 #[J p,J n,J B,.bool false,.bool false,.bool false,J 0,J (gD n),J 0,J 0,J 0,J 0,sN,.pointer none,
  sT v n n,.map (some D),sN,sN,sN]/\Z.heap[D]?=some _/\af Z v 69 _/\Below _ w Z)
 case first=>
  go_region_held3 (fun _=>True) (trivial) (first|(go_at_call 108;refine(ml n _ hn).mono ?_;rintro e P ⟨rfl,rfl⟩))
  all_goals (go_wp2_with fail;go_meet)
  all_goals first
   | (obtain ⟨t1, t2, t3, t4⟩ := Fa w _ _ _
      exact⟨_,_,_,rfl,ω,ω,ω,t3,t1,t2,t4.drew⟩)
   | (obtain ⟨t1, t2, t3, t4⟩ := Fa w _ _ _
      exact⟨_,_,_,rfl,ω,ω,ω,t3,t2,t1,t4.drew⟩)
 case rest=>
  obtain⟨b,v,D,rfl,a5,V,a2,A,M,O,d⟩:=hcut;have F:=A.a 14 _ rfl;simp only[yf,yd,ye] at F;go_wp2
  go_loopw [24] (fun i wr=>∃k:Nat,k<=n/\i=J k/\af wr b 159 #[J p,J n,J B,.bool false,.bool false,.bool false,J 0,J (gD n),J 0,J 0,J 0,J 0,sN,.pointer none,sT v n n,.map (some D),sN,sN,sN]/\wr.heap[D]?=some (.map #[] 0)/\Below w w wr/\
   ∃N:Array Value,af wr v 69 N/\N.size=n/\∃f:List Nat,f.length=k/\f.Nodup/\(∀r∈f,w.heap.size<=r/\af wr r 3 (ints (List.replicate n 0)).toArray)/\∀(q r:Nat),f[q]?=some r->N[q]?=some (Value.slice (some ⟨r,0,none⟩) n n)) (fun i _=>n - (intOf i).toNat)
  case atStart=>exact⟨0,ω,rfl,A,M,d,_,O,ς,[],rfl,List.nodup_nil,fun r z=>absurd z yU,fun q r C=>absurd C ς⟩
  case round=>
   clear A M O d F;obtain⟨k,hk,rfl,A,M,d,N,O,X,f,L,H,a,c⟩:=hrel;have F:=A.a 14 _ rfl;simp only[yf,yd,ye] at F;by_cases b2:k<n
   ·have c0:(0:Int)<=(k:Int):=Int.natCast_nonneg _;have a9:(k:Int)<(n:Int):=ω;have b3:=Ap n hn;obtain⟨u,hu⟩:∃u,N[k]?=some u:=⟨_,yl (show k<N.size by omega)⟩;have Y:=A.g (.cells (ints (List.replicate n 0)).toArray 3);have E:=O.g (.cells (ints (List.replicate n 0)).toArray 3);have q1:=E.a k u hu;have q2:=E.b k;have a8:Hid (af wr b 159 _):=A;have t:Hid (af _ b 159 _):=Y;have HK2d:Hid (af _ v 69 _):=E;have G:Hid (wr.heap[D]?=some (.map #[] 0)):=M;have I:Hid (f.Nodup/\(∀r∈f,w.heap.size<=r/\af wr r 3 (ints (List.replicate n 0)).toArray)/\∀(q r:Nat),f[q]?=some r->N[q]?=some (Value.slice (some ⟨r,0,none⟩) n n)):=⟨H,a,c⟩;clear A O Y E M a hu H c;go_upto_region 5 with fail
    refine gl.b (fun P=>P.cell? (aT b 14)=some (sT v n n)) 8 κ (a8.out.i.a 14 _ rfl) (fun o=>?_)
    (iterate 6 refine χ ?_)
    refine te 6 fun K S=>?_;go_simp;refine S.out _ _ (fun _=>t.out.i.a 14 _ rfl) (fun _=>?_);clear S K o;have o:=t.out.i.a 14 _ rfl;simp only[yf,yd,ye] at o;try simp only[pU]
    refine tk 7 ?_;refine te 8 fun K S=>?_;go_simp;refine S.out _ _ (fun h=>absurd rfl h) (fun _=>?_);clear S K;try simp only[pU]
    refine gl.done κ ?_ _;go_wp2_with fail
    go_roundw
    case rel=>
     have R:b≠v:=fU t.out HK2d.out θ;have U:D≠v:=fun e=>by
      have hh:=HK2d.out;have a0:(wr.alloc (.cells (ints (List.replicate n 0)).toArray 3)).heap[D]?=some (.map #[] 0):=(yQ _ _ _ (yk.1 G.out).1).trans G.out;exact FX hh a0 e.symm
     have b8:=d.size;refine⟨k+1,ω,by go_num,(t.out.h R _ _).i,?_,((d.alloc ω _).trans (((ej.d v _).a k _).c V)).drew,N.setIfInBounds k _,(HK2d.out.e k _).i,by simpa using X,f++[wr.heap.size],by simp[L],?_,fun r z=>?_,fun q r C=>?_⟩
     ·exact(yT _ _ _ _ U).trans ((yQ _ _ _ (yk.1 G.out).1).trans G.out)
     ·rw[GZ];refine⟨I.out.1,ς,fun x Q y hy e=>?_⟩;rw[yu] at hy;have:=(I.out.2.1 x Q).2.f;omega
     ·rcases yz.1 z with z|z
      ·obtain⟨h2,h3⟩:=I.out.2.1 r z;have W:=h3.g (.cells (ints (List.replicate n 0)).toArray 3);exact⟨h2,(W.h (fU W HK2d.out θ) _ _).i⟩
      ·rw[yu] at z;subst z;have W:=af.d wr wr.heap.size rfl 3 (ints (List.replicate n 0)).toArray;exact⟨ω,(W.h (fU W HK2d.out θ) _ _).i⟩
     ·rcases Fs q k with a3|a3
      ·rw[y7 ω] at C;rw[yP ω];exact I.out.2.2 q r C
      ·rw[Fl ω] at C;have a1:q=k:=by
        have:=(ym.1 C).1;simp at this;omega
       subst a1;rw[L,Nat.sub_self] at C;obtain rfl:wr.heap.size=r:=by simpa using C
       rw[yR ω]
    case measure=>simp[intOf];omega
   ·have T:k=n:=ω;have b0:¬(k:Int)<(n:Int):=ω;have HF:Hid (∃b',b'=b/\PX wr (fun x=>w.heap.size<=x/\x<wr) b' (cZ p n B) (bB n).b (bB n).c (bB n).a []):=by
     refine⟨b,rfl,[],rfl,v,D,f,#[],0,sN,sN,A,⟨L.trans T,I2 ..,H,?_,fun q r l C hl=>?_⟩,M,⟨rfl,rfl,List.nodup_nil,fun e he=>absurd he yU⟩,List.Pairwise.nil,fun x Q=>absurd Q yU,⟨y9 _ _ _ _,fun g hg=>by cases hg⟩,⟨y9 _ _ _ _,fun g hg=>by cases hg⟩,⟨a5,A.f⟩,⟨V,O.f⟩,⟨a2,(yk.1 M).1⟩,fun r z=>⟨(a r z).1,(a r z).2.f⟩⟩
     ·show af wr v 69 (f.map fun r=>Value.slice (some ⟨r,0,none⟩) n n).toArray;rw[vB X (L.trans T) c];exact O
     ·obtain⟨b9,a7⟩:=ym.1 hl;have a6:List.replicate n (0:Int)=l:=by simpa[bB] using a7
      rw[<-a6];exact⟨I2 ..,(a r (yy C)).2⟩
    have a4:Hid (Below w w wr):=d;clear A M O a d H c;go_wp2
    go_ret;obtain⟨b',rfl,Q⟩:=HF.out;exact⟨b',rfl,Q,a4.out⟩
open Go.Pm (Perm Loose frame_calls)
open Go.Cr (fam Tabs leafLaw progOk)
variable {k L:Nat}{cs:Array Value}{lo hi:Nat->Nat}
section
def EE:(prog.info? 102).map (fun i=>(i.zero,i.size,i.bytes))=some (some (.pointer none),1,8):=κ
def Gt(n:Nat)(g:n<=6)(u:World):(Instr.makeSlice 93 (J n) (J n)).run prog u=.ok (sT u n n) (u.alloc (.cells (Array.replicate n (Value.pointer none)) 102)):=by
 obtain⟨c,e,a,b,f⟩:=info_parts EE;have h:=run_make u 93 102 c _ Tryz.underlying93 e a .i64 .i64 _ n ω (Ld _) ν ω;rw[CM] at h;have d:madeCells (Value.pointer none).cells (n * c.size)=(Array.replicate n (Value.pointer none)):=by
  rw[b,Nat.mul_one];apply Array.ext';rw[show (Value.pointer none).cells=#[Value.pointer none] from rfl,toList_madeCells_one];simp
 rw[d] at h;exact h
def Ho(w:World)(a b d c:Obj):((((w.alloc a).alloc b).alloc d).alloc c).heap[w.heap.size]?=some a/\((((w.alloc a).alloc b).alloc d).alloc c).heap[w.heap.size+1]?=some b/\((((w.alloc a).alloc b).alloc d).alloc c).heap[w.heap.size+1+1]?=some d/\((((w.alloc a).alloc b).alloc d).alloc c).heap[w.heap.size+1+1+1]?=some c/\Below w w ((((w.alloc a).alloc b).alloc d).alloc c):=by
 obtain⟨h,g,f,e⟩:=Fa _ b d c;have i:(w.alloc a).heap.size=w.heap.size+1:=ς;rw[i] at h g f e;exact⟨(e.block _ ω).trans (heap_alloc_new w a),h,g,f,((yi _ _).alloc (yb _) a).trans (e.mono ω)⟩
variable {w w':World}{gb pb n win lim:Nat}{bl:Nat->Nat}{Fp:Nat->Nat->Prop}{Fn:Nat->Prop}{st:Nat->vj}{pl:List bC}{nv:Value}{FG:Nat->Prop}
theorem EU{i n:Nat}(a:Nat)(c:i<n)(e:n<=6):Ok (cZ i n a) (bB n).b (bB n).c (bB n).a/\∀m∈(bB n).c,Codec.aK m=true:=by
 refine⟨⟨fun m b=>absurd b yU,fun q d=>?_,?_⟩,fun m b=>absurd b yU⟩
 ·rw[show (bB n).b.getD (cZ i n a).a []=List.replicate n 0 from rZ c,yj,yaW];grind
 ·rw[show (bB n).b.getD (cZ i n a).a []=List.replicate n 0 from rZ c];simp only[bB,wK,List.map_replicate,List.sum_replicate_nat,yD];grind
def PC.a{F:Nat->Prop}{b:Nat}{h:Hd}{l:List (List Int)}{i:List Codec.Msg}{c:List Ev}{a:List bC}(p:PC w F b h l i c a)(j:∀x,F x->w'.heap[x]?=w.heap[x]?)(e:∀x,x<7->w'.heap[x]?=w.heap[x]?)(f:w.heap.size<=w'):PC w' F b h l i c a:=by
 obtain⟨o,g,q,m⟩:=p;exact⟨o,g,q.c fun x d _=>j x (g x d),m.c (fun x d=>j x (g x d)) e f⟩
def EY(p n d:Nat)(w:World)(N:n<=6)(D:Tabs w)(F:7<=w.heap.size):Calls prog 69 #[J p,J n,J d] w fun e C=>∃b,e=.returned (pT b 0)/\PC C (fun x=>w.heap.size<=x/\x<C) b (cZ p n d) (bB n).b (bB n).c (bB n).a []/\Below w w C:=by
 have c:Cl w (fun _=>False):=⟨D,F,fun x h=>h.elim⟩;obtain⟨z,R,t,T,E,O,q, -, -, -⟩:=c.e;have Q:=Nat.le_of_not_lt fun y=>q 7 (yb _) y;have M:=frame_calls progOk leafLaw O E D rfl rfl (fun v I=>by
  intro U _;simp at I;rcases I with rfl|rfl|rfl <;> simp) (zu p n d z N) (fun e K A=>by
  grind)
 have l:(#[Value.int .i64 p,J n,J d].map (Value.pm R))=#[J p,J n,J d]:=ς;rw[l] at M;refine M.mono ?_;rintro e K ⟨v,H,j,rfl,⟨b,G,S, -⟩,a, -⟩;injection G with G;subst G;have B:Loose fam j H K:=⟨a.d.c,a.d.g,a.d.d,a.d.e,a.d.os,fun f=>by rw[a.e.1];exact t.g f,a.e.2.2.trans t.b⟩;have m:=fun x h=>a.j x h fun r A u _=>q r A u;have s:∀r,(z.heap.size<=r/\r<H.heap.size)->7<=r:=fun r h=>by
  have:7<=z.heap.size:=t.c;omega
 refine⟨j.f b,by simp[Addr.pm],⟨fun x=>∃r,7<=r/\r<H.heap.size/\j.f r=x,fun x h=>?_,?_,Cl.a B a.m (bR D fun x h=>m x ω)⟩,⟨a.d.os.trans (a.os.trans t.os.symm),a.o,a.q,a.l,m⟩⟩
 ·obtain⟨r,A,u,rfl⟩:=h;exact⟨a.k r ω u,a.d.k u⟩
 ·exact(S.a (fun r o h P=>a.d.c r o (s r h) P) (vu p n d)).d fun x h=>⟨j.i x,s _ h,h.2,j.c x⟩
structure FM (w:World) (L k n win:Nat) (cs:Array Value) (bl lo hi:Nat->Nat):Prop where
 c:∀q,q<k->cs[q]?=some (.pointer (some ⟨bl q,0,none⟩))
 b:∀q,q<k->L<=lo q
 a:∀q,q<k->hi q<=w.heap.size
 e:∀q r,q<r->r<k->hi q<=lo r
 d:∀q,q<k->PC w (fun x=>lo q<=x/\x<hi q) (bl q) (cZ q n win) (bB n).b (bB n).c (bB n).a []
def EZ(f:Nat->Nat)(k v:Nat):Nat->Nat:=fun q=>if q=k then v else f q
def eL(f:Nat->Nat)(k v:Nat):EZ f k v k=v:=if_pos rfl
def fP(f:Nat->Nat){q:Nat}(v:Nat)(h:q<k):EZ f k v q=f q:=if_neg ω
def FM.f{x d:Nat}{c:World}(m:FM w L k n win cs bl lo hi)(s:k<cs.size)(o:L<=w)(p:d<L)(j:7<=d)(i:Below w w c)(t:PC c (fun y=>w.heap.size<=y/\y<c) x (cZ k n win) (bB n).b (bB n).c (bB n).a [])(v:Value)(l:v=pT x 0) :
 FM (c.setCell ⟨d,k,none⟩ v) L (k+1) n win (cs.setIfInBounds k v) (EZ bl k x) (EZ lo k w.heap.size) (EZ hi k c.heap.size):=by
 subst l;have a:=(ej.d d c).a k (Value.pointer (some ⟨x,0,none⟩));have g:=i.size;refine⟨fun q f=>?_,fun q f=>?_,fun q f=>?_,fun q r b u=>?_,fun q f=>?_⟩
 ·rcases Fs q k with h|h
  ·rw[fP _ _ h,yP ω];exact m.c q h
  ·obtain rfl:q=k:=ω;rw[eL,yR s]
 ·rcases Fs q k with h|h
  ·rw[fP _ _ h];exact m.b q h
  ·obtain rfl:q=k:=ω;rw[eL];exact o
 ·rw[a.size];rcases Fs q k with h|h
  ·rw[fP _ _ h];exact yr (m.a q h) g
  ·obtain rfl:q=k:=ω;rw[eL];omega
 ·rcases Fs r k with h|h
  ·rw[fP _ _ h,fP _ _ (show q<k by omega)];exact m.e q r b h
  ·obtain rfl:r=k:=ω;rw[eL,fP _ _ b];exact m.a q b
 ·rcases Fs q k with h|h
  ·rw[fP _ _ h,fP _ _ h,fP _ _ h];have z:=m.b q h;exact((m.d q h).c i).a (fun y e=>a.block y ω) (fun y e=>a.block y ω) ς
  ·obtain rfl:q=k:=ω;rw[eL,eL,eL];exact t.a (fun y e=>a.block y ω) (fun y e=>a.block y ω) ς
def FM.g(m:FM w L n n win cs bl lo hi)(z:n<=6)(F:gb<L)(B:pb<L)(s:7<=gb/\7<=pb)(o:gb≠pb)(y:af w gb 97 #[sT pb n n,J lim,sN])(A:af w pb 102 cs)(p:cs.size=n):∃e:Nat->Nat->Prop,(∀q x,q<n->e q x->lo q<=x/\x<hi q)/\GA w gb pb n win lim bl e (fun _=>False) (fun _=>bB n) [] (sN):=by
 have t:∀q,∃f:Nat->Prop,q<n->(∀x,f x->lo q<=x/\x<hi q)/\PX w f (bl q) (cZ q n win) (bB n).b (bB n).c (bB n).a []/\Cl w f:=fun q=>by
  by_cases l:q<n
  ·obtain⟨f,d⟩:=m.d q l;grind
  simp[*]
 obtain⟨e,b⟩:=Classical.axiomOfChoice t;refine⟨e,fun q x l c=>(b q l).1 x c,?_⟩;refine⟨⟨y,y9 _ _ _ _,fun g E=>by cases E⟩,?_,fun i hi=>(b i hi).2.1,fun i hi=>EU win hi z,fun i j x hi v c C=>?_,fun i x hi c h=>h,fun i hi=>?_,⟨id,id⟩,o,fun i x hi c=>?_,fun x c=>c.elim,fun i hi=>(b i hi).2.2,s,fun x c=>c.elim⟩
 ·rw[vB p ς fun q r D=>?_]
  ·exact A
  ·obtain⟨d,u⟩:=ym.1 D;simp at d u;subst u;exact m.c q d
 ·have d:=(b i hi).1 x c;have u:=(b j v).1 x C;rcases Ks i j with h|h|h
  ·have:=m.e i j h v;omega
  ·exact h
  ·have:=m.e j i h hi;omega
 ·have:=m.b i hi;grind
 ·have d:=(b i hi).1 x c;have:=m.a i hi;omega
def Ge(n b c:Nat)(w:World)(h:(1<=n/\n<=6)/\(1<=b/\b<=8)/\1<=c/\c<=4000)(hT:Tabs w)(D:7<=w.heap.size):Calls prog 38 #[.agg #[J n,J b,J c]] w fun e f=>∃g,e=.returned (.tuple #[pT g 0,J 0])/\GX f (fun x=>w.heap.size<=x) g n b c (fun _=>bB n) []/\Below w w f:=by
 obtain⟨⟨h1,h2⟩,⟨h3,h4⟩,h5,h6⟩:=h;have hn:n<=6:=ω;have k1:¬n<1:=ω;have k2:¬6<n:=ω;have k3:¬b<1:=ω;have k4:¬8<b:=ω;have k5:¬c<1:=ω;have k6:¬4000<c:=ω;have b3:=Gt n hn;have M:Hid (∀f,Below w w f->Tabs f/\7<=f.heap.size):=fun f hb=>⟨bR hT fun x U=>hb.block x ω,yr D hb.size⟩;have H:=ah D;clear h1 h2 h3 h4 h5 h6 hT D;go_enter Tryz.func38,Tryz.ntmps38
 go_upto_region 3 with fail
 go_cut [4] (fun s T=>∃g m,s=pT g 0/\w.heap.size<=g/\w.heap.size<=m/\af T g 97 #[sT m n n,J c,sN]/\af T m 102 _/\af T w.heap.size 23 #[J n,J b,J c]/\Below w w T)
 case first=>
  go_region_held3 (fun f=>f.cell? (aT w 0)=some (J n)/\f.cell? (aT w 2)=some (J c)) (simp[go_sem,World.cell?_alloc_past]) (first|(go_at_call 68;refine(zt c _).mono ?_;rintro e f ⟨rfl,rfl⟩))
  all_goals (go_wp2_with fail;go_meet)
  all_goals first
   | (obtain ⟨t0, t1, t2, t3, Y⟩ := Ho w (.cells #[J n, J b, J c] 23) (.cells #[J c, sN] 95) (.cells (Array.replicate n (Value.pointer none)) 102) (.cells #[.slice (some ⟨w.heap.size + 1 + 1, 0, none⟩) n n, J c, sN] 97)
      exact⟨w.heap.size+1+1+1,w.heap.size+1+1,rfl,ω,ω,t3,t2,t0,Y.drew⟩)
   | (obtain ⟨t0, t1, t2, t3, Y⟩ := Ho w (.cells #[J n, J b, J c] 23) (.cells (Array.replicate n (Value.pointer none)) 102) (.cells #[J c, sN] 95) (.cells #[.slice (some ⟨w.heap.size + 1, 0, none⟩) n n, J c, sN] 97)
      exact⟨w.heap.size+1+1+1,w.heap.size+1,rfl,ω,ω,t3,t1,t0,Y.drew⟩)
 case rest=>
  obtain⟨g,m,rfl,a4,C,p,v,z,d⟩:=hcut;have c0:=p.a 0 _ rfl;simp only[yf,yd] at c0;obtain⟨L,hL⟩:∃L,L=wc.heap.size:=⟨_,rfl⟩;have N:g<L:=by rw[hL];exact p.f
  have P:m<L:=by rw[hL];exact v.f
  have O:w.heap.size<L:=by rw[hL];exact z.f
  have B:g≠m:=fU p v θ;have S:w.heap.size≠m:=fU z v θ;go_wp2_with fail
  go_loopw [47] (fun i wr=>∃k:Nat,k<=n/\i=J k/\L<=wr/\af wr g 97 #[sT m n n,J c,sN]/\af wr w.heap.size 23 #[J n,J b,J c]/\Below w w wr/\
   ∃F:Array Value,af wr m 102 F/\F.size=n/\∃bl lo hi,FM wr L k n b F bl lo hi) (fun i _=>n - (intOf i).toNat)
  case atStart=>exact⟨0,ω,rfl,ω,p,z,d,_,v,ς,fun _=>0,fun _=>0,fun _=>0,⟨fun q E=>ω,fun q E=>ω,fun q E=>ω,fun q r _ E=>ω,fun q E=>absurd E (Nat.not_lt_zero _)⟩⟩
  case round=>
   clear p v z d c0;obtain⟨k,hk,rfl,G,p,z,d,F,v,a7,bl,lo,hi,a⟩:=hrel;by_cases b1:k<n
   ·have b2:(0:Int)<=(k:Int):=(by omega);have b0:(k:Int)<(n:Int):=ω;have a1:=ah p;have Z:=ah z;have a2:=ah v;have l:=ah d;have a8:=ah a;have HS:Hid (∀f,Below L wr f->f.cell? (aT g 0)=some (sT m n n)/\f.cell? (aT w 0)=some (J n)/\f.cell? (aT w 1)=some (J b)):=fun f X=>⟨(p.c X N).a 0 _ rfl,(z.c X O).a 0 _ rfl,(z.c X O).a 1 _ rfl⟩;clear p z v d a;go_upto_region 7 with fail
    refine gl.b (fun f=>f.cell? (aT g 0)=some (sT m n n)/\f.cell? (aT w 0)=some (J n)/\f.cell? (aT w 1)=some (J b)) 12 κ (HS.out _ (yi _ _).drew) (fun t=>?_)
    (iterate 10 refine χ ?_)
    refine te 10 fun K I=>?_;go_simp;refine(EY k n b _ hn (M.out _ l.out.drew).1 (M.out _ l.out.drew).2).mono ?_;rintro e V ⟨x,rfl,U,a5⟩;have j:Below wr wr V:=(yi _ _).drew.trans a5;have a3:PC V (fun y=>wr.heap.size<=y/\y<V) x (cZ k n b) (bB n).b (bB n).c (bB n).a []:=U.d fun y hy=>by simp_all
    go_wp2_with fail
    refine I.out _ _ (fun _=>HS.out _ (j.mono G)) (fun _=>?_);clear I K t;have t:=HS.out _ (j.mono G);try simp only[pU]
    obtain⟨u,hu⟩:∃u,F[k]?=some u:=⟨_,yl (show k<F.size by omega)⟩;have A:=a2.out.c j ω;have q1:=A.a k u hu;have q2:=A.b k;have Q:=ah A;clear A hu;refine tk 11 ?_;refine te 12 fun K I=>?_;go_simp;refine I.out _ _ (fun h=>absurd rfl h) (fun _=>?_);clear I K;try simp only[pU]
    refine gl.done κ ?_ _;go_wp2_with fail
    go_roundw
    case rel=>
     have b5:=j.size;have R:=(ej.d m V).a k (Value.pointer (some ⟨x,0,none⟩));refine⟨k+1,ω,by go_num,?_,?_,?_,?_,F.setIfInBounds k _,Q.out.e k _,ν,_,_,_,a8.out.f ω G P (yr H.out C) j a3 _ rfl⟩
     ·rw[R.size];omega
     ·exact(a1.out.c j ω).h B _ _
     ·exact(Z.out.c j ω).h S _ _
     ·exact(l.out.trans (j.mono l.out.size)).trans (R.c C)
    case measure=>simp[intOf];omega
   ·have a0:k=n:=ω;have a9:¬(k:Int)<(n:Int):=ω;subst a0;have HF:Hid (∃W,W=g/\GX wr (fun x=>w.heap.size<=x) W k b c (fun _=>bB k) []):=by
     obtain⟨Fp,b4,a6⟩:=a.g hn N P ⟨yr H.out a4,yr H.out C⟩ B p v a7;refine⟨g,rfl,m,bl,Fp,_,_,a6,fun y hy=>?_⟩;rcases hy with h|h|h|⟨q,E,h⟩
     ·omega
     ·omega
     ·grind
     ·have h1:=a.b q E;grind
    have l:=ah d;clear p z v a d;go_wp2
    go_ret2
    obtain⟨W,rfl,U⟩:=HF.out;exact⟨W,rfl,U,l.out⟩
end
end
section
open Go.RowKit
open Go.ChangeMaps (setBlock)
variable {w w':World}{F:Nat->Prop}{pl:List bC}{base lb n:Nat}{vs:Array Value}{v' v:Value}{c:Nat->List ByteArray}
def jC(cur:Array Value):Prop:=∀u∈cur.toList,∃s,u=Value.string s
def Cw(k:Nat):jC (Builtin.zeroCells (Value.string ⟨#[]⟩).cells k):=by
 intro u a;simp only[Builtin.zeroCells,yV,yW] at a;obtain⟨i, -,rfl⟩:=a;refine⟨⟨#[]⟩,?_⟩;show (#[Value.string _])[i % 1]! = _;grind
section
variable {P:Program}(w:World)
def vt(t K:TypeId)(C:Nat)(e:TypeId)(i:TypeInfo)(m:Nat)(Q:P.underlying t=some (.slice e))(S:P.info? e=some i)(T:i.zero=some (.string ⟨#[]⟩))(O:i.size=1)(N:i.bytes=m)
 (v:Value) (n:Nat) (D:List Value) (l:w.ownsRow C e 1 v n D) (G:Addr) (c:Nat) (s:ByteArray) (f:∀j u,[Value.string s][j]?=some u->w.cell? (G.add j)=some u) (M:n+1<=maxLen) (q:(n+1) * m<=140737488355328)
 (x:∀g b,v.ownBlock=some g->w.heap[g]?=some (.cells b e (0,0))->jC b) {U:World} (B:(Builtin.append_ #[t,t] K #[v,.slice (some G) 1 c]).run P w=.ok v' U) :
 ∀g b e' Z,v'.ownBlock=some g->U.heap[g]?=some (.cells b e' Z)->jC b:=by
 subst N;have W:n+1<=9223372036854775807:=by
  simp only[maxLen] at M;omega
 have L:∀u∈D,∃s,u=Value.string s:=by
  rcases l.2 with ⟨-,r⟩|⟨g,o,b,r, -,I, -, -, -,E⟩
  ·have h1:=l.1;grind
  ·intro u d;rw[<-E] at d;exact x g b (by rw[r];rfl) I u ν
 have h:∀(z:List Value) (k:Nat),(∀u∈z,∃s,u=Value.string s)->jC (z.toArray++[Value.string s].toArray++Builtin.zeroCells (Value.string ⟨#[]⟩).cells k):=fun z k ho u d=>by
  simp only[Array.toList_append,yz] at d;rcases d with (d|d)|d
  ·grind
  ·grind
  ·exact Cw k u d
 intro R V e2 a0 A p;rcases l.2 with ⟨rfl,rfl⟩|⟨g,o,b,rfl, -,I,X, -,Y,E⟩
 ·have r:=run_append_nil w t K e i _ Q S T G 1 c _ ν f ω ω ω;rw[r] at B;injection B with e1 e3;subst e1 e3;obtain rfl:w.heap.size=R:=by simpa[Value.ownBlock] using A
  have a:=heap_alloc_new w.drew (.cells ([Value.string s].toArray++Builtin.zeroCells (Value.string ⟨#[]⟩).cells (grownCap w 1 0 e - 1)) e);rw[show w.drew.heap.size=w.heap.size from rfl,p] at a;simp only[yA,Obj.cells.injEq] at a;rw[a.1];have:=h [] (grownCap w 1 0 e - 1) ς;simpa using this
 ·by_cases y:n+1<=o
  ·have r:=run_append_room (P:=P) w t K e i Q S g n o b I G 1 c [.string s] ν f (by intro u d;simp only[yu] at d;subst d;rfl) y ν;rw[r] at B;injection B with e1 e3;subst e1 e3;obtain rfl:g=R:=by simpa[Value.ownBlock] using A
   rw[setRow_heap w g b _ e _ I] at p;simp only[yA,Obj.cells.injEq] at p;rw[<-p.1];intro u d;simp only[yz] at d;have H:=x g b rfl I;rcases d with (d|d)|d
   ·grind
   ·grind
   ·exact H u ν
  ·have r:=run_append_grow (P:=P) w t K e i _ Q S T ⟨g,0,none⟩ n o D ν (l.cells (g:=g) rfl) G 1 c [.string s] ν f ω ω (growslice_fits ω q);rw[r] at B;injection B with e1 e3;subst e1 e3;obtain rfl:w.heap.size=R:=by simpa[Value.ownBlock] using A
   have a:=heap_alloc_new w.drew (.cells (D.toArray++[Value.string s].toArray++Builtin.zeroCells (Value.string ⟨#[]⟩).cells (grownCap w (n+1) o e - (n+1))) e);rw[show w.drew.heap.size=w.heap.size from rfl,p] at a;simp only[yA,Obj.cells.injEq] at a;rw[a.1];exact h D _ L
def ns{z:Array Oper}{o:Oper}{a:Act}{K:Act->World->Prop}{Q:Exit->Act->World->Prop}{E:Prop}(I:o.guard=none)(N x:Operand)(t:TypeId)(X:o.op=.call { callee:=.builtin .append,args:=#[N,x],argTypes:=#[t,t] })
 (b:Nat) (e:TypeId) (i:TypeInfo) (k:Nat) (S:P.underlying t=some (.slice e)) (T:P.info? e=some i) (R:i.zero=some (.string ⟨#[]⟩)) (l:i.size=1) (B:i.bytes=k)
 (v:Value) (n:Nat) (D:List Value) (Z:a.eval N=v) (q:w.ownsRow b e 1 v n D) (G:Addr) (c:Nat) (s:ByteArray) (Y:a.eval x=.slice (some G) 1 c) (m:∀j u,[Value.string s][j]?=some u->w.cell? (G.add j)=some u) (A:n+1<=maxLen) (f:(n+1) * k<=140737488355328) (r:b<=w) (H:Nat) (W:w.heap.size=H)
 (C:∀g d,v.ownBlock=some g->w.heap[g]?=some (.cells d e (0,0))->jC d)
 (h:∀g p y,y.ownsRow b e 1 (sT g (n+1) p) (n+1) (D++[.string s])->w.grownBy y v.ownBlock->(v.ownBlock=some g\/g=H)->g<y.heap.size->(∀d M L,y.heap[g]?=some (.cells d M L)->jC d)->K (a.put o.dst (sT g (n+1) p)) y) :
 if Region.wanted o (yielded z a.tmps)=true then Oper.wp P o a w K Q else E:=by
 have V:Region.wanted o (yielded z a.tmps)=true:=by simp[Region.wanted,I]
 rw[if_pos V];obtain⟨g,p,y,O,h2,h3,h4,h5⟩:=run_append_lies w t o.type b e i _ 1 _ S T R l B rfl θ v n D q G 1 c _ rfl m (by intro u U;simp only[yu] at U;subst U;rfl) ω A f r H W;unfold Oper.wp execOp;simp only[X,resolve,invoke,builtin,Sem.run_bind,Sem.run_pure,Result.andThen_ok,Fj,yN,Cx,Z,Y,O];exact h g p y h2 h3 h4 h5 fun d M L hc=>vt w t _ b e i _ S T R l B v n D q G c s m A f C O g d M L rfl hc
end
structure CF (w:World) (base lb n:Nat) (vs:Array Value) (c:Nat->List ByteArray):Prop where
 a:af w lb 151 vs
 size:vs.size=n
 f:base<=lb
 b:∀j v,j<n->vs[j]?=some v->w.ownsRow base 9 1 v (c j).length ((c j).map Value.string)
 dis:∀i j v u g,i<n->j<n->vs[i]?=some v->vs[j]?=some u->v.ownBlock=some g->u.ownBlock=some g->i=j
 flat:∀j v g cur e fz,j<n->vs[j]?=some v->v.ownBlock=some g->w.heap[g]?=some (.cells cur e fz)->jC cur
def vq(c:Nat->List ByteArray)(j:Nat)(s:ByteArray):Nat->List ByteArray:=fun q=>if q=j then c j++[s] else c q
def lD{m:Nat}{h:List Value}(f:w.ownsRow base 9 1 v m h)(k:af w lb 151 vs):some lb≠v.ownBlock:=by
 intro e;rcases f.2 with ⟨b, -⟩|⟨g,j,l,b, -,a, -⟩
 ·rw[b] at e;cases e
 ·rw[b] at e;have i:lb=g:=by simpa[Value.ownBlock] using e
  subst i;have d:=k;rw[d] at a;grind
def CF.d(h:CF w base lb n vs c)(f:Below w w w'):CF w' base lb n vs c:=
 ⟨h.a.c f h.a.f,h.size,h.f,fun j v a b=>aj (h.b j v a b) fun g d=>f.block g ((h.b j v a b).lt g d).2,h.dis,fun j v g i e k a b d l=>h.flat j v g i e k a b d (by rw[<-f.block g ((h.b j v a b).lt g d).2];exact l)⟩
def CF.h{j g cap:Nat}{s:ByteArray}{C:World}(h:CF w base lb n vs c)(E:j<n)(G:vs[j]?=some v)(B:w.grownBy C v.ownBlock)(L:v.ownBlock=some g\/w.heap.size<=g)(K:v'=sT g ((c j).length+1) cap)(p:C.ownsRow base 9 1 v' ((c j).length+1) ((c j).map Value.string++[.string s]))(N:∀r e H,C.heap[g]?=some (.cells r e H)->jC r) :
 CF (C.setCell ⟨lb,j,none⟩ v') base lb n (vs.setIfInBounds j v') (vq c j s):=by
 have t:af C lb 151 vs:=(B.block lb h.a.f (lD (h.b j v E G) h.a)).trans h.a;have A:∀k,v'.ownBlock=some k->k=g:=fun k e=>by
  rw[K] at e;simpa[Value.ownBlock] using e.symm
 have o:∀{x:Nat},x≠lb->(C.setCell ⟨lb,j,none⟩ v').heap[x]?=C.heap[x]?:=fun Y=>yT _ _ _ _ Y;have f:∀q u,q<n->(vs.setIfInBounds j v')[q]?=some u->(q=j/\u=v')\/(q≠j/\vs[q]?=some u):=fun q u l i=>by
  grind
 refine⟨t.e j _,by simpa using h.size,h.f,fun q u l i=>?_,fun a b u R k V W i O Z d=>?_,fun q u k r e H l i d I=>?_⟩
 ·rcases f q u l i with ⟨rfl,rfl⟩|⟨m,i⟩
  ·have X:vq c q s q=c q++[s]:=if_pos rfl;rw[X,yC,y8];refine aj p fun k d=>o fun e=>?_;exact lD p t ν
  ·rw[show vq c j s q=c q from if_neg m];refine aj (h.b q u l i) fun k d=>?_;have y:=((h.b q u l i).lt k d).2;rw[o fun e=>lD (h.b q u l i) h.a ν];exact B.block k y fun e=>m (h.dis q j u v k l E i G d e.symm)
 ·have U:∀q z,q<n->q≠j->vs[q]?=some z->z.ownBlock=some g->False:=fun q z l m Q D=>by
   rcases L with S|S
   ·exact m (h.dis q j z v g l E Q G D S)
   ·have:=((h.b q z l Q).lt g D).2;omega
  rcases f a u V i with ⟨rfl,rfl⟩|⟨m,M⟩ <;> rcases f b R W O with ⟨rfl,rfl⟩|⟨T,P⟩
  ·rfl
  ·grind
  ·grind
  ·exact h.dis a b u R k V W M P Z d
 ·rcases f q u l i with ⟨rfl,rfl⟩|⟨m,i⟩
  ·rw[o fun e=>lD p t ν,A k d] at I;exact N r e H I
  ·have y:=((h.b q u l i).lt k d).2;rw[o fun e=>lD (h.b q u l i) h.a ν,B.block k y fun e=>m (h.dis q j u v k l E i G d e.symm)] at I;exact h.flat q u k r e H l i d I
def eC(pl:List bC)(j:Nat):List ByteArray:=(pl.filter fun x=>decide (x.1=(j:Int))).map (·.2)
def xZ(a:List bC)(j:Nat)(s:ByteArray):eC (a++[((j:Int),s)])=vq (eC a) j s:=by
 funext q;unfold eC vq;grind
def Gm:(prog.info? 9).map (fun i=>(i.zero,i.size,i.bytes))=some (some (.string ⟨#[]⟩),1,16):=κ
def EF:(prog.info? 151).map (fun i=>(i.zero,i.size,i.bytes))=some (some (sN),1,24):=κ
def EP(n:Nat)(i:n<=6)(u:World):(Instr.makeSlice 100 (J n) (J n)).run prog u=.ok (sT u n n) (u.alloc (.cells (Array.replicate n (Value.slice none 0 0)) 151)):=by
 obtain⟨d,f,a,b,g⟩:=info_parts EF;have h:=run_make u 100 151 d (sN) Tryz.underlying100 f a .i64 .i64 n n ω (Ld _) ν ω;rw[CM] at h;have e:madeCells (Value.slice none 0 0).cells (n * d.size)=(Array.replicate n (Value.slice none 0 0)):=by
  rw[b,Nat.mul_one];apply Array.ext';rw[show (Value.slice none 0 0).cells=#[Value.slice none 0 0] from rfl,toList_madeCells_one];simp
 rw[e] at h;exact h
def CF.k(w:World)(n:Nat):CF (w.alloc (.cells (Array.replicate n (Value.slice none 0 0)) 151)) w.heap.size w.heap.size n (Array.replicate n (Value.slice none 0 0)) (eC []):=by
 have a:∀{j:Nat}{v:Value},(Array.replicate n (Value.slice none 0 0))[j]?=some v->v=sN:=fun {j v} h=>by
  grind
 refine⟨af.d w _ rfl 151 _,ς,yb _,fun j v f d=>?_,fun i j v u g q f d o b k=>?_,fun j v g l e m f d b p=>?_⟩
 ·rw[a d];exact y9 _ _ _ _
 ·rw[a d] at b;cases b
 ·rw[a d] at b;cases b
def Co(n:Nat)(hn:n<=6)(ao:Option Addr)(vc:Nat)(r:eB w F 111 2 (.slice ao pl.length vc) pl.length (ar pl))(hl:pl.length<=1000000)(a8:∀x∈pl,∃j:Nat,j<n/\x.1=(j:Int)) :
 Calls prog 61 #[.slice ao pl.length vc,J n] w fun e z=>e=.returned (sT w n n)/\Below w w z/\∃A,CF z w.heap.size w.heap.size n A (eC pl):=by
 obtain⟨i0,b8,c3,b5,b4⟩:=info_parts Gm;have c6:=EP n hn;have H0:=ah (CF.k w n);have P:Hid (Below w w (w.alloc (.cells (Array.replicate n (Value.slice none 0 0)) 151))):=(yi _ _).alloc (yb _) _;have D:Hid (∀(k:Nat) wr,k<pl.length->Below w w wr->∃(g j:Nat) (s:ByteArray),ao=some ⟨g,0,none⟩/\j<n/\wr.cell? ⟨g,k * 2,none⟩=some (J j)/\wr.cell? ⟨g,k * 2+1,none⟩=some (.string s)/\pl.take (k+1)=pl.take k++[((j:Int),s)]):=fun k wr hk hb=>by
  obtain⟨g,O,Y, -,a3,c0,c1, -⟩:=kt r (yh hk);obtain⟨j,hj,hx⟩:=a8 _ (AF hk);injection Y with h1 h2 h3;refine⟨g,j,pl[k].2,h1,hj,(hb.cell (p:=⟨g,k * 2,none⟩) a3).trans ν,(hb.cell (p:=⟨g,k * 2+1,none⟩) a3).trans c1,?_⟩;rw[Lc,yh hk,<-hx];rfl
 clear r a8;go_enter Tryz.func61,Tryz.ntmps61
 go_wp2_with fail
 generalize w.alloc _=w1 at H0 P ⊢;go_loopw [12] (fun i wr=>∃k:Nat,k<=pl.length/\i=J k/\Below _ w wr/\∃A,CF wr _ _ n A (eC (pl.take k))) (fun i _=>pl.length - (intOf i).toNat)
 case atStart=>exact⟨0,ω,rfl,P.out,_,H0.out⟩
 case round=>
  obtain⟨k,hk,rfl,f,A,L⟩:=hrel;by_cases b3:k<pl.length
  ·obtain⟨g,j,s,rfl,hj,c0,c1,b0⟩:=D.out k wr b3 f;have c5:0<=k:=ω;have a9:k<pl.length:=ω;have c4:0<=j:=ω;have c8:j<n:=ω;have Q:=ah f;have q:=ah L;have a7:=ah b0;clear f L b0 D H0 P;go_upto_region 5 with fail
   have M:Hid (Below wr wr (wr.alloc (.cells #[J j,.string s] 111))):=(yi _ _).alloc (yb _) _;have hX:=af.d wr _ rfl 111 #[J j,.string s];have u:Hid ((wr.alloc (.cells #[J j,.string s] 111)).heap.size=wr.heap.size+1):=by simp[Hid]
   obtain⟨v,Y⟩:∃v,A[j]?=some v:=⟨_,yl (show j<A.size by have:=q.out.size;omega)⟩;have l:=q.out.b j v hj Y;obtain⟨vo,I,a4⟩:=bG l;have b7:(eC (pl.take k) j).length<=1000000:=by
    unfold eC;rw[yL];refine yr (G3 _ _) ?_;rw[xk];omega
   have HS:Hid (∀z,Below (wr.heap.size+1) (wr.alloc (.cells #[J j,.string s] 111)) z->z.cell? (aT w j)=some v/\z.cell? (aT wr 0)=some (J j)/\z.cell? (aT wr 1)=some (.string s)):=fun z hw=>⟨((q.out.d (M.out.trans (hw.mono ω))).a).a j v Y,(hX.c hw ω).a 0 _ rfl,(hX.c hw ω).a 1 _ rfl⟩;have HV:=ah Y;clear hX c0 c1;generalize b9:wr.alloc (.cells #[J j,.string s] 111)=B at M u HS ⊢;clear b9;generalize R:(eC (pl.take k) j).length=m at a4 b7 l;have o:=ah l;have E:=ah R;clear l R Y;subst a4;refine gl.b (fun z=>z.cell? (aT w j)=some (.slice vo m I)/\z.cell? (aT wr 0)=some (J j)/\z.cell? (aT wr 1)=some (.string s)) 13 rfl (HS.out _ (yi _ _).drew) (fun hHeld=>?_)
   (iterate 10 refine χ ?_)
   refine te 10 fun K C=>?_;go_simp;have y:Hid (Below B B (B.alloc (.cells #[.string s] 9)).drew):=((yi _ _).alloc (yb _) _).drew;refine C.out _ _ (fun _=>HS.out _ (y.out.mono (by rw[u.out];omega))) (fun hHeld=>?_);clear C K;try simp only[pU]
   have HE:Hid (af (B.alloc (.cells #[.string s] 9)).drew B.heap.size 9 #[.string s]):=(af.d B B.heap.size rfl 9 _).i;have N:Hid ((B.alloc (.cells #[.string s] 9)).drew.heap.size=B.heap.size+1):=by simp[Hid]
   generalize (B.alloc (.cells #[.string s] 9)).drew=w4 at y HE N hHeld ⊢;have t:Hid (Below wr wr w4):=M.out.trans (y.out.mono (by rw[u.out];omega));refine te 11 fun K C=>?_;have p:=q.out.d t.out;refine ns w4 rfl (.tmp 23) (.tmp 26) 151 rfl w.heap.size 9 i0 16 Tryz.underlying151 b8 c3 b5 b4 (.slice vo m I) m ((eC (pl.take k) j).map Value.string) rfl (aQ o.out t.out) (aT B 0) 1 s rfl (IZ HE.out) (by simp[maxLen];omega) ω (by have:=Q.out.size;have:=t.out.size;omega) (B.heap.size+1) N.out (fun g c2 hg hc=>p.flat j _ g c2 _ _ hj HV.out hg hc) ?_;intro g2 O V W d Z b1 U;have H:=p.h (s:=s) hj HV.out d (g:=g2) (cap:=O) (Z.imp id (fun e=>by have:=N.out;omega)) (by rw[E.out]) (by rw[E.out];exact W) U;rw[<-xZ,<-a7.out] at H;have a0:∀x,(Value.slice vo m I).ownBlock=some x->w.heap.size<=x/\x<wr.heap.size:=fun x hx=>o.out.lt x hx;have b2:=Q.out.size;have a1:=t.out.size;have T:=Q.out.trans (t.out.mono b2);have X:=lD o.out q.out.a;have S:af V w.heap.size 151 A:=(d.block _ p.a.f X).trans p.a;have a6:Hid (V.cell? (aT w j)=some (.slice vo m I)/\V.cell? (aT wr 0)=some (J j)/\V.cell? (aT wr 1)=some (.string s)):=by
    have h4:=HS.out _ (y.out.mono (by rw[u.out];omega));have a2:wr.heap.size<w4:=by have:=y.out.size;rw[u.out] at this;omega
    have nx:some wr.heap.size≠(Value.slice vo m I).ownBlock:=fun e=>ν;exact⟨(d.cell_far ⟨w.heap.size,j,none⟩ p.a.f X).trans h4.1,(d.cell_far ⟨wr.heap.size,0,none⟩ a2 nx).trans h4.2.1,(d.cell_far ⟨wr.heap.size,1,none⟩ a2 nx).trans h4.2.2⟩
   have a5:Below w w V:=T.trans ⟨d.os,d.tape,d.output,d.size,fun x hx=>d.block x ω (fun e=>by grind)⟩;have G:Hid (Below w w (V.setCell ⟨w.heap.size,j,none⟩ (sT g2 (m+1) O))/\∃A,CF (V.setCell ⟨w.heap.size,j,none⟩ (sT g2 (m+1) O)) w.heap.size w.heap.size n A (eC (pl.take (k+1)))):=⟨a5.trans (((ej.d w.heap.size V).a j _).c (yb _)),_,H⟩;have c7:=S.b j;clear W d Z b1 U hHeld HE N y HS X S H p a5 T a0 b2 a1 t o E q Q a7 M u;refine C.out _ _ (fun _=>a6.out) (fun hHeld=>?_);clear C K;try simp only[pU]
   have hHeld:=hHeld θ;refine te 12 fun K C=>?_;go_simp;refine C.out _ _ (fun _=>a6.out) (fun hHeld=>?_);clear C K;try simp only[pU]
   have hHeld:=hHeld θ;refine te 13 fun K C=>?_;go_simp;refine C.out _ _ (fun h=>absurd rfl h) (fun _=>?_);clear C K;try simp only[pU]
   refine gl.done κ ?_ _;go_wp2_with fail
   go_roundw
   case rel=>exact⟨k+1,ω,by go_num,G.out⟩
   case measure=>simp[intOf];omega
  ·have a9:¬(k:Int)<(pl.length:Int):=ω;have b6:k=pl.length:=ω;have G:Hid (Below w w wr/\∃A,CF wr w.heap.size w.heap.size n A (eC pl)):=⟨f,A,by rw[b6,AE] at L;exact L⟩;clear f L D H0 P;go_wp2_with fail
   go_ret;exact⟨rfl,G.out⟩
def bw(c:Int)(n:Nat):Nat:=((if c<0 then -(c+1) else c) % (n:Int)).toNat
def cM(c:Int){n:Nat}(d:1<=n):bw c n<n:=by
 unfold bw;have b:=Int.emod_lt_of_pos (if c<0 then -(c+1) else c) (show (0:Int)<n by omega);have a:=Int.emod_nonneg (if c<0 then -(c+1) else c) (show (n:Int)≠0 by omega);omega
def fO(c:Int)(n:Nat)(w:World)(l:-9223372036854775808<=c/\c<=9223372036854775807)(m:1<=n)(i:n<=1000000):Calls prog 34 #[J c,J n] w fun e k=>e=.returned (J (bw c n))/\k=w:=by
 have a:(n:Int)≠0:=ω;have f:¬(n:Int) = -1:=ω;unfold bw;by_cases h:c<0
 ·have g:wrap64 (c+1)=c+1:=by unfold wrap64;omega
  have j:wrap64 (-(c+1)) = -(c+1):=by unfold wrap64;omega
  have d:0<=-(c+1):=ω;have b:Hid (-(c+1).tmod n=(((-(c+1)) % (n:Int)).toNat:Int)):=by
   unfold Hid;rw[<-Int.neg_tmod,Int.tmod_eq_emod_of_nonneg d];have:=Int.emod_nonneg (-(c+1)) a;omega
  rw[if_pos h];go_enter Tryz.func34,Tryz.ntmps34
  go_wp2_with fail
  go_ret;refine⟨?_,rfl⟩;show Ending.returned (J _)=_;rw[b.out]
 ·rw[if_neg h];go_enter Tryz.func34,Tryz.ntmps34
  go_wp2_with fail
  go_ret;refine⟨?_,rfl⟩;show Ending.returned (J _)=Ending.returned _;rw[Int.max_eq_left (Int.emod_nonneg c a)]
def xU(s:ByteArray)(n:Nat):ByteArray:=if n<s.size then s.extract 0 n else s
def BQ(s:ByteArray)(n:Nat):(xU s n).size<=n:=by
 unfold xU;split
 ·rw[ByteArray.size_extract];omega
 ·omega
def Iy(s:ByteArray)(n:Nat)(w:World):Calls prog 58 #[.string s,J n] w fun e b=>e=.returned (.string (xU s n))/\b=w:=by
 unfold xU;by_cases h:n<s.size
 ·have a:n<s.size:=ω;rw[if_pos h];go_enter Tryz.func58,Tryz.ntmps58
  go_wp2_with fail
  go_ret;exact⟨rfl,rfl⟩
 ·have a:¬n<s.size:=ω;rw[if_neg h];go_enter Tryz.func58,Tryz.ntmps58
  go_wp2_with fail
  go_ret;exact⟨rfl,rfl⟩
def Iz(e:Ev):Value:=.agg #[J e.b,J e.a,J e.d,J e.seq,J e.c,.string e.e]
def dv(e:Ev):Bool:=decide (e.b=1\/e.b=2)
def lC(e:Ev)(w:World):Calls prog 36 #[Iz e] w fun r d=>r=.returned (.bool (dv e))/\Below w w d:=by
 obtain⟨k,v,s,q,m,t⟩:=e;unfold Iz dv;have c:=(af.d w _ rfl 64 #[J k,J v,J s,J q,J m,.string t]).a 0 _ rfl;simp only[yf,yd] at c;by_cases b:k=1
 ·go_enter Tryz.func36,Tryz.ntmps36
  go_wp2_with fail
  go_ret;exact⟨by simp[b],(yi _ _).alloc (yb _) _⟩
 ·by_cases a:k=2
  ·go_enter Tryz.func36,Tryz.ntmps36
   go_wp2_with fail
   go_ret;exact⟨by simp[a],(yi _ _).alloc (yb _) _⟩
  ·go_enter Tryz.func36,Tryz.ntmps36
   go_wp2_with fail
   go_ret;exact⟨by simp[b,a],(yi _ _).alloc (yb _) _⟩
def cA(a b:Ev):Bool:=decide (a.a=b.a/\a.d=b.d/\a.seq=b.seq)
def qi(a b:Ev)(w:World):Calls prog 67 #[Iz a,Iz b] w fun r x=>r=.returned (.bool (cA a b))/\Below w w x:=by
 obtain⟨q,i,c,j,m,n⟩:=a;obtain⟨t,h,k,g,s,o⟩:=b;unfold Iz cA;have f:=(af.d w _ rfl 64 #[J q,J i,J c,J j,J m,.string n]).g (.cells #[J t,J h,J k,J g,J s,.string o] 64);have d:=af.d (w.alloc (.cells #[J q,J i,J c,J j,J m,.string n] 64)) (w.heap.size+1) ς 64 #[J t,J h,J k,J g,J s,.string o];have A:=f.a 1 _ rfl;have z:=f.a 2 _ rfl;have B:=f.a 3 _ rfl;have v:=d.a 1 _ rfl;have u:=d.a 2 _ rfl;have y:=d.a 3 _ rfl;simp only[yf,yd,ye] at A z B v u y;clear f d;by_cases e:i=h
 ·by_cases l:c=k
  ·by_cases p:j=g
   ·go_enter Tryz.func67,Tryz.ntmps67
    go_wp2_with fail
    go_ret;exact⟨by simp[e,l,p],((yi _ _).alloc (yb _) _).alloc ς _⟩
   ·go_enter Tryz.func67,Tryz.ntmps67
    go_wp2_with fail
    go_ret;exact⟨by simp[e,l,p],((yi _ _).alloc (yb _) _).alloc ς _⟩
  ·go_enter Tryz.func67,Tryz.ntmps67
   go_wp2_with fail
   go_ret;exact⟨by simp[e,l],((yi _ _).alloc (yb _) _).alloc ς _⟩
 ·go_enter Tryz.func67,Tryz.ntmps67
  go_wp2_with fail
  go_ret;exact⟨by simp[e],((yi _ _).alloc (yb _) _).alloc ς _⟩
def pL:∀{l:List Ev}{k:Nat}{e:Ev},l[k]?=some e->∀i,i<6->(az l)[k * 6+i]?=e.f[i]?
 |[],k,e,h=>by cases h
 | y :: l, 0, e, h => by
   simp only[AH,yA] at h;subst h;intro i a;rw[show az (y::l)=y.f++az l from rfl,y7 (by show _<6;omega)];congr 1;omega
 | y :: l, k + 1, e, h => by
   intro i a;have:=pL (by simpa using h) i a;rw[show az (y::l)=y.f++az l from rfl,Fl (by show 6<=_;omega),<-this];congr 1;show (k+1) * 6+i - 6=_;omega
def jU{w:World}{c:Nat}{v:Value}{l:List Ev}(r:w.ownsRow c 64 6 v l.length (az l)){k:Nat}{e:Ev}(h:l[k]?=some e):∃g a,v=sT g l.length a/\w.cell? ⟨g,k * 6,none⟩=some (J e.b)/\w.cell? ⟨g,k * 6+1,none⟩=some (J e.a)/\w.cell? ⟨g,k * 6+2,none⟩=some (J e.d)/\w.cell? ⟨g,k * 6+3,none⟩=some (J e.seq)/\w.cell? ⟨g,k * 6+4,none⟩=some (J e.c)/\w.cell? ⟨g,k * 6+5,none⟩=some (.string e.e):=by
 have j:=(ym.1 h).1;rcases r.2 with ⟨-,f⟩|⟨g,a,o,f, -⟩
 ·omega
 ·have d:v.ownBlock=some g:=by rw[f];rfl
  have b:=fun i u n m=>by
   have:=r.cells d _ u ((pL h i n).trans m);rwa [lu] at this
  exact⟨g,a,f,b 0 _ ω rfl,b 1 _ ω rfl,b 2 _ ω rfl,b 3 _ ω rfl,b 4 _ ω rfl,b 5 _ ω rfl⟩
open Go.Pm (Perm)
open Go.Cr (fam Tabs)
open Md (PS Grp Wf GW Book)
variable {w1 w2:World}{gb pb:Nat}{bl:Nat->Nat}{Fp:Nat->Nat->Prop}{Fn:Nat->Prop}{G G1 G2:Grp}{nv:Value}{FG:Nat->Prop}{i win lim:Nat}
def rS(k:GW G)(l:GY w FG gb G)(b:i<G.n):Calls prog 35 #[pT gb 0,J i] w fun e a=>∃v,e=.returned (.tuple #[v,J 0])/\a.ownsRow w 64 6 v (G.b i).j.length (az (G.b i).j)/\Below w w a:=by
 obtain⟨u,q,z,A,B,g,j⟩:=l;have h:=ah (mu i _ _ g.c0 b);have c:Hid (Calls prog 66 #[.pointer (some ⟨q i,0,none⟩)] w fun e a=>∃d,e=.returned d/\a.ownsRow w 64 6 d (G.b i).j.length (az (G.b i).j)/\Below w w a):=by
  obtain⟨o,p⟩:=g.c i b;exact BW p.a (k.a i b).a7
 have y:=g.c0;have t:=g.b b;have r:0<=i:=ω;have m:i<G.n:=ω;clear g j;go_enter Tryz.func35,Tryz.ntmps35
 go_wp2_with fail
 refine h.out.mono ?_;rintro e C ⟨rfl,rfl⟩;go_wp2_with fail
 refine c.out.mono ?_;rintro e x ⟨v,rfl,f⟩;have s:Hid _:=f;clear f h c;go_wp2_with fail
 go_ret2
 exact⟨v,rfl,s.out⟩
def IL{p:Nat}(a:n<=6):cZ p n win=zc (PS.Ni p n win) (sN) (sN) none:=by
 unfold cZ zc PS.Ni;rw[(vN n a).2];rfl
def IM{p b:Nat}{F:Nat->Prop}(k:n<=6)(h:PX w F b (cZ p n win) (bB n).b (bB n).c (bB n).a []):PZ w F b (PS.Ni p n win):=by
 obtain⟨l,r,o,f,c,m,a,g,j,q⟩:=h;have d:l=[]:=by cases l with
  |nil=>rfl
  |cons x l=>cases r
 subst d;rw[IL k] at q;refine⟨⟨[],o,f,c,m,a,g,j,sN,none,sN,[],sN,[]⟩,q,rfl,fun x e=>?_,⟨World.ownsRow_nil _ _ _ _,nofun⟩,trivial,⟨rfl,World.ownsRow_nil _ _ _ _,nofun⟩⟩;rcases e with h|⟨h, -⟩|h <;> cases h
def IK{a:Nat->Prop}(k:n<=6)(g:GX w a gb n win lim (fun _=>bB n) []):GY w a gb (Grp.Nm n win lim):=by
 obtain⟨e,f,d,j,h,g,b⟩:=g;exact⟨e,f,d,j,h,⟨g.d,g.f,fun i c=>IM k (g.e i c),g.dis,g.c,g.b,g.p,g.k,g.g,g.h,g.l,g.o⟩,b⟩
def GY.e(g:GY w FG gb G):GY w (fun x=>FG x/\x<w) gb G:=by
 obtain⟨d,e,c,h,f,g,b⟩:=g;exact⟨d,e,c,h,f,g,fun x a=>⟨b x a,(g.z a).2⟩⟩
def BZ(n win lim:Nat):Grp:=(Grp.Nm n win lim).cast 0 Md.mZ
def Aq(c:1<=n)(a:1<=win):(PS.Ni 0 n win).Mf Md.mZ=0:=by
 have b:(PS.Ni 0 n win).Ml.getD (PS.Ni 0 n win).c 0=0:=by
  match n,c with
  |_+1,_=>rfl
 unfold PS.Mf;rw[b];have:¬(PS.Ni 0 n win).r<=((PS.Ni 0 n win).o.filter fun m=>m.a == ((PS.Ni 0 n win).c:Int)).length:=by
  show ¬win<=0;omega
 rw[if_neg this];rfl
def DZ{S:PS}{t:ByteArray}(h:S.Mf t=0):(S.cast t).j=S.j++[⟨1,S.b,S.c,S.Ml.getD S.c 0+1,0,t⟩]:=by
 unfold PS.cast;rw[if_pos h];have:=Md.bK (fun (T:PS) q=>T.MN q (S.Ma t)) 1 (fun T q=>Md.ak T _) (S.MV (S.Ma t)).L8 (S.MV (S.Ma t));rw[this.e];rfl
def Ew(b:1<=n)(a:1<=win):((BZ n win lim).b 0).j=[⟨1,0,0,1,0,Md.mZ⟩]:=by
 show ((PS.Ni 0 n win).cast _).j=_;rw[DZ (Aq b a)];show [(⟨1,0,0,(PS.Ni 0 n win).Ml.getD 0 0+1,0,_⟩:Ev)]=_;have c:(PS.Ni 0 n win).Ml.getD 0 0=0:=by
  match n,b with
  |_+1,_=>rfl
 rw[c];rfl
def II(a:n<=6)(c:lim<=4000):GW (Grp.Nm n win lim):=⟨a,fun _ b=>Md.DK a b,fun _ _=>rfl,fun _ _=>rfl,fun _ _=>rfl,c,oI _⟩
def CC(w:World)(pp gb n win lim:Nat)(cr:Book)(fair:Bool):Prop:=af w pp 44 #[pT gb 0,J n,J win,J lim,.bool (cr 0),.bool (cr 1),.bool (cr 2),.bool (cr 3),.bool (cr 4),.bool (cr 5),.bool fair]
def EX(w:World)(d:Bool)(hT:Tabs w)(I:7<=w.heap.size)(o:1<=n/\n<=6)(j:1<=win/\win<=8)(f:1<=lim/\lim<=4000):Calls prog 25 #[.agg #[J n,J win,J lim],.bool d] w fun e b=>∃M W,e=.returned (pT M 0)/\Below w w b/\CC b M W n win lim (fun _=>false) d/\w.heap.size<=M/\GY b (fun x=>w.heap.size<=x/\x<M) W (BZ n win lim):=by
 have Y:Hid (∀b,Below w w b->Calls prog 38 #[.agg #[J n,J win,J lim]] b fun e a=>∃g,e=.returned (.tuple #[pT g 0,J 0])/\GY a (fun x=>b.heap.size<=x) g (Grp.Nm n win lim)/\Below b b a):=fun b Q=>(Ge n win lim b ⟨o,j,f⟩ (bR hT fun x N=>Q.block x ω) (yr I Q.size)).mono fun e a h=>by
  obtain⟨g,S,h2,h3⟩:=h;exact⟨g,S,IK o.2 h2,h3⟩
 have Z:Hid (∀b g A,GY b A g (Grp.Nm n win lim)->Calls prog 56 #[pT g 0,J 0,.string ⟨#[102,105,114,115,116]⟩] b fun e a=>e=.returned (J 0)/\GT b a A g (BZ n win lim)):=fun b g A z=>by
  have:=Aj (i:=0) (II (win:=win) o.2 f.2) z (by show 0<n;omega) Md.mZ θ (fun _=>nofun);have e:((Grp.Nm n win lim).b 0).Mf Md.mZ=0:=Aq o.1 j.1;rw[e] at this;exact this
 have X:Hid (∀b g A,GY b A g (BZ n win lim)->Calls prog 35 #[pT g 0,J 0] b fun e a=>Below b b a/\∃t m,e=.returned (.tuple #[sT t 1 m,J 0])/\a.cell? (aT t 0)=some (J 1)/\a.cell? (aT t 3)=some (J 1)/\a.cell? (aT t 5)=some (.string ⟨#[102,105,114,115,116]⟩)):=fun b g A z=>by
  have gw:GW (BZ n win lim):=((Md.dY.start (fair:=d) (n:=n) (win:=win) (lim:=lim)).a o).b o.2 f.2;refine(rS gw z (i:=0) (by show 0<n;omega)).mono ?_;rintro e a ⟨v,rfl,V,Q⟩;rw[Ew o.1 j.1] at V;obtain⟨t,m,rfl,c0, -, -,c3, -,U⟩:=jU V (k:=0) rfl;exact⟨Q,t,m,rfl,c0,c3,U⟩
 have D:Hid (af (w.alloc (.cells #[J n,J win,J lim] 23)) w.heap.size 23 #[J n,J win,J lim]):=af.d w w.heap.size rfl 23 _;have u:Hid (Below w w (w.alloc (.cells #[J n,J win,J lim] 23))):=(Below.refl _ _).alloc (yb _) _;have q:Hid ((w.alloc (.cells #[J n,J win,J lim] 23)).heap.size=w.heap.size+1):=by simp[Hid]
 clear o j hT I f;go_enter Tryz.func25,Tryz.ntmps25
 have O:=D.out.a 0 _ rfl;have L:=D.out.a 1 _ rfl;have P:=D.out.a 2 _ rfl;simp only[yf,yd,ye] at O L P;go_wp2_with fail
 clear O L P;generalize w.alloc _=w0 at D u q ⊢;refine(Y.out w0 u.out).mono ?_;rintro _ w1 ⟨g,rfl,z,E⟩;have T:=ah z.e;have r:=ah E;have C:=ah (Z.out w1 g _ T.out);clear z E Y Z;go_wp2_with fail
 refine C.out.mono ?_;rintro _ w2 ⟨rfl,c⟩;have B:=ah c.2;have K:=ah (r.out.trans ⟨c.1.os,c.1.tape,c.1.output,c.1.size,fun k hk=>c.1.block k (yg hk r.out.size) (fun h=>by omega)⟩);have F:=ah (X.out w2 g _ B.out);clear c X C;go_wp2_with fail
 refine F.out.mono ?_;rintro _ y ⟨p,t,m,rfl,c0,c3,U⟩;have R:=ah (B.out.a p);have s:=ah (K.out.trans (p.mono K.out.size));have l:=D.out.c s.out (by rw[q.out];omega);have O:=l.a 0 _ rfl;have L:=l.a 1 _ rfl;have P:=l.a 2 _ rfl;simp only[yf,yd,ye] at O L P;clear p F l;go_wp2_with fail
 go_ret;have a1:=s.out.size;have a0:=q.out;have H:Below y y (y.alloc (.cells #[pT g 0,J n,J win,J lim,.bool false,.bool false,.bool false,.bool false,.bool false,.bool false,.bool d] 44)):=(Below.refl _ _).alloc (yb _) _;refine⟨y.heap.size,g,rfl,((u.out.trans (s.out.mono ω)).trans (H.mono ω)),af.d y y.heap.size rfl 44 _,ω,(R.out.e.a H).c fun x N=>?_⟩;rcases N.1 with S|S
 ·exact⟨ω,N.2⟩
 ·have:=r.out.size;exact⟨ω,N.2⟩
