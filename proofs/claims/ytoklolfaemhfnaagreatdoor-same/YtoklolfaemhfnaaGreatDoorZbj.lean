import Derived.Test.YtoklolfaemhfnaaGreatDoorZay
import Derived.Test.YtoklolfaemhfnaaGreatDoorZbi
set_option maxRecDepth 100000
set_option maxHeartbeats 0
set_option linter.defProp false
open Go.Proofs.Tryz
namespace Go.Proofs.Y
section
open Go.RowKit
open Md (PS Vote Bal Lft Wf MsgW Sends FrW)
variable {w w' wb:Δ}{F:ϑ}{b X:Nat}{S S':PS}{o o1 o':Pl}{f:Codec.Frame}{ro co mo:Option Addr}{rn rk cn ck mn mk:Nat}{R:ϑ}{v:Θ}{n:Nat}{l:List Codec.Msg}
def B8(p:PP w F b S o)(B:Wf S)(P:S.out=false)(M:FrW S.n f){rv cv mv:Θ}(y:ud w (o.R F b) f rv cv mv)(Y:S.e.length<=800000):Do 117 #[pT b 0,jq f rv cv mv] (.tuple #[]) w F b o (S.MW f):=by
 obtain⟨N,E,A,rfl⟩:=y.row.a;obtain⟨C,G,I,rfl⟩:=y.cut.a;obtain⟨H,D,L,rfl⟩:=y.msgs.a;have c:=ah (p.bx y);obtain⟨q,V,W⟩:=M.src;have HQ:=ah W;have a0:0<=q:=ω;have x:q<=63:=by have:=B.c;omega
 have r:Hid (S.MW f=if S.b<f.h then S else if f.h<S.b then S.MM f else if Md.aV S.m q then S.L9 f else S):=by have e:f.f.toNat=q:=ω;unfold Hid PS.MW;rw[e]
 have u:Hid (∀d,Bx w F b o f N C H E A G I D L w d S o->f.h<S.b->ϖ 172 #[pT b 0,jq f (.slice N E A) (.slice C G I) (.slice H D L)] d λe g=>ϱ e (.tuple #[])/\∃Q,To w F b o g (S.MM f) Q):=λd h O=>h.a.g (tN h.a.c B P M O h.fr ω);have m:Hid (∀d,Bx w F b o f N C H E A G I D L w d S o->ϖ 174 #[pT b 0,jq f (.slice N E A) (.slice C G I) (.slice H D L)] d λe g=>ϱ e (.tuple #[])/\∃Q,To w F b o g (S.L9 f) Q):=λd h=>h.a.g (nj h.a.c B P M h.fr Y);clear p y B M P W V Y;generalize S.MW f=Z at r⊢;unfold jq at u m⊢;go_enter func117,ntmps117;refine wp_seq_k λK k=>?_;have z:=ah k;clear k;go_wp21;refine z.out _ _ ?_;generalize w.alloc _=wb at c⊢;generalize w.heap.size=X at c u m⊢;have c6:=c.out.a.c.a.z 6;have c7:=c.out.a.c.a.z 7;have d0:=c.out.c.z 0;have d1:=c.out.c.z 1;have d2:=c.out.c.z 2;have d3:=c.out.c.z 3;have d4:=c.out.c.z 4;have d5:=c.out.c.z 5;have d6:=c.out.c.z 6;have d7:=c.out.c.z 7;have d8:=c.out.c.z 8;have d9:=c.out.c.z 9;by_cases T:S.b<f.h
 .have s:Hid (Z=S):=by rw[Hid,r.out,if_pos T]
  go_wp21;go_quiet (fail);go_wp21;(try simp);refine bodyPost_ret (results_none rfl _ _ _) rfl ?_;exact⟨rfl,o,by rw[s.out];exact(c.out.d nq).a⟩
 by_cases U:f.h<S.b
 .have s:Hid (Z=S.MM f):=by rw[Hid,r.out,if_neg T,if_pos U]
  go_wp21;go_quiet (fail);go_wp21;go_quiet (fail);go_wp21;refine(u.out _ (c.out.d _) (ah U)).m ?_;rintro w3 h3;go_wp21;go_end0;exact⟨rfl,by rw[s.out];exact(ah h3)⟩
 have i:Hid (Z=if Md.aV S.m q then S.L9 f else S):=by rw[Hid,r.out,if_neg T,if_neg U]
 have j:Hid (∀d,ϖ 173 #[J S.m,J q] d λe g=>ϱ e (.bool (Md.aV S.m q))/\g=d):=λd=>gE S.m q d x;rw[HQ.out]at d1;cases t:Md.aV S.m q
 .have s:Hid (Z=S):=by have:=i.out;rw[t]at this;exact this
  rw[t]at j;go_wp21;go_quiet (fail);go_wp21;go_quiet (fail);go_wp21;refine wp_region_held_drew (S:=λd=>ε d b 7 (J S.m)/\ε d X 1 (J q)) rfl (by constructor<;>simpa) λa=>?_;(iterate 6 refine ψ ?_);refine we 6 λK k=>?_;go_simp;refine(j.out _).m ?_;rintro w2 rfl;refine k.out _ _ (by constructor<;>simpa) λa=>?_;refine wk 7 ?_;refine wpAnyH_done κ ?_ _;go_wp21;go_end0;exact⟨rfl,o,by rw[s.out];exact(c.out.d _).a⟩
 have s:Hid (Z=S.L9 f):=by have:=i.out;rw[t]at this;exact this
 rw[t]at j;rw[HQ.out]at m;go_wp21;go_quiet (fail);go_wp21;go_quiet (fail);go_wp21;refine wp_region_held_drew (S:=λd=>ε d b 7 (J S.m)/\ε d X 1 (J q)) rfl (by constructor<;>simpa) λa=>?_;(iterate 6 refine ψ ?_);refine we 6 λK k=>?_;go_simp;refine(j.out _).m ?_;rintro w2 rfl;refine k.out _ _ (by constructor<;>simpa) λa=>?_;refine wk 7 ?_;refine wpAnyH_done κ ?_ _;go_wp21;refine(m.out _ (c.out.d _)).m ?_;rintro w4 h4;go_wp21;go_end0;exact⟨rfl,by rw[s.out];exact(ah h4)⟩
def qL{m:Nat}(d:Option Addr)(c:Nat)(w:Δ)(h:((m:Int)==(n:Int))=false)(g:((m:Int)==0)=false):ϖ 169 #[.slice d m c,J n] w λe a=>ϱ e (.bool false)/\a=w:=by go_enter func169,ntmps169;go_wp2;go_ret;exact⟨rfl,rfl⟩
def kO(l:Υ)(n:Nat)(a:Option Addr)(c:Nat)(w:Δ):ϖ 169 #[.slice a l.length c,J n] w λe h=>ϱ e (.bool (Md.dp l n))/\h=w:=by
 unfold Md.dp;by_cases g:l.length=n;rw[g];simp;exact oc n a c w;by_cases d:l.length=0;rw[d];simp;exact od n a c w;have e:(l.length==n||l.length==0)=false:=by simp only[beq_eq_false_iff_ne.2 g,beq_eq_false_iff_ne.2 d];rfl
 rw[e];exact qL a c w (by rw[beq_eq_false_iff_ne];omega) (by rw[beq_eq_false_iff_ne];omega)
def eB.h{e:TypeId}{d:Nat}{a:List Θ}(h:eB w R e d v n a):∃g c,v=.slice g n c:=bG h.d
def bI.d(h:bI w R v l):∃a c,v=.slice a l.length c:=by rcases h with ⟨⟨a,c,rfl⟩,rfl⟩|⟨g,d,rfl,-⟩;exact⟨a,c,rfl⟩;exact⟨_,_,rfl⟩
def bI.g(h:bI w R v l){k:Nat}{m:Codec.Msg}(s:l[k]?=some m):∃g a j p,v=sT g l.length a/\g<w/\w.cell? ⟨g,k*4,none⟩=some (J m.a)/\w.cell? ⟨g,k*4+1,none⟩=some (J m.seq)/\w.cell? ⟨g,k*4+2,none⟩=some (.slice j m.c.length p)/\w.cell? ⟨g,k*4+3,none⟩=some (.string m.b)/\(∀q,q<m.c.length->∃i,j=some ⟨i,0,none⟩/\ε w i q (J (m.c.getD q 0))):=by rcases h with ⟨-,rfl⟩|⟨g,a,A,z,-,y⟩;cases s;obtain⟨D,x,C,B,u,r⟩:=y k m s;obtain⟨j,p,rfl⟩:=r.h;refine⟨g,a,j,p,A,z,x,C,B,u,λq t=>?_⟩;obtain⟨i,c,e,-,-,d⟩:=mE r.d ω;injection e with e1 e2 e3;exact⟨i,e1,d q t⟩
def zp(l:List Codec.Msg)(n:Nat)(mv:Θ)(hm:bI w R mv l)(h0:∀m∈l,0<=m.a)(a4:l.length<=1000):ϖ 170 #[mv,J n] w λe w'=>ϱ e (.bool (l.all (Md.dr n)))/\Below w w w':=by
 obtain⟨ao,mc,rfl⟩:=hm.d;have HM:Hid (∀k m wr,l[k]?=some m->Below w w wr->∃g G C,ao=some ⟨g,0,none⟩/\wr.cell? ⟨g,k*4,none⟩=some (J m.a)/\wr.cell? ⟨g,k*4+1,none⟩=some (J m.seq)/\wr.cell? ⟨g,k*4+2,none⟩=some (.slice G m.c.length C)/\wr.cell? ⟨g,k*4+3,none⟩=some (.string m.b)/\(∀q,q<m.c.length->∃B,G=some ⟨B,0,none⟩/\B<wr/\ε wr B q (J (m.c.getD q 0)))):=λk m wr hk u=>by obtain⟨g,a6,G,C,hv,T,Q,c1,c2,c3,P⟩:=hm.g hk;injection hv with hv1;refine⟨g,G,C,hv1,(u.cell (p:=(aT g _)) T).trans Q,(u.cell (p:=(aT g _)) T).trans c1,(u.cell (p:=(aT g _)) T).trans c2,(u.cell (p:=(aT g _)) T).trans c3,λq hq=>?_⟩;obtain⟨B,e,hc⟩:=P q hq;have:=World.block_lt_of_cell? w _ hc;exact⟨B,e,yg this u.size,(u.cell (p:=(aT B q)) this).trans hc⟩
 go_enter func170,ntmps170;go_wp2_with fail;go_loopw [9] (λi wr=>∃k:Nat,k<=l.length/\i=J k/\Below _ w wr/\Hid ((l.take k).all (Md.dr n)=true)) λi _=>l.length-(intOf i).toNat
 case atStart=>exact⟨0,ω,rfl,Below.refl _ _,rfl⟩
 case round=>
  obtain⟨k,hk,rfl,u,r⟩:=hrel;by_cases U:k<l.length
  .obtain⟨m,A⟩:∃m,l[k]?=some m:=⟨_,yh U⟩;obtain⟨g,G,C,W,Q,c1,c2,c3,P⟩:=HM.out k m wr A u;have V:=(ah h0).out m (yy A);obtain⟨s,Y⟩:∃s:Nat,m.a=s:=⟨m.a.toNat,ω⟩;have p:Hid (Md.dr n m=false->l.all (Md.dr n)=false):=λh=>by rw[List.all_eq_false];exact⟨m,yy A,by rw[h];exact Bool.false_ne_true⟩
   have j:Hid (Md.dr n m=true->(l.take (k+1)).all (Md.dr n)=true):=λh=>by rw[Lc,A,List.all_append,r.out];simp[h]
   have HMF:Hid (Md.dr n m=(decide ((s:Int)<n)&&m.c.length==n&&m.c.getD s 0==m.seq)):=by unfold Hid Md.dr;rw[Y];rfl
   rw[Y]at Q;have t:=ah P;obtain⟨ms,H,y,I⟩:=m;simp only at Q c1 c2 c3 t HMF;have a1:k<l.length:=ω;have a7:0<=k:=ω;have a3:0<=s:=ω;subst W;have x:Hid (Below wr wr (wr.alloc (.cells #[J s,J H,.slice G y.length C,.string I] 179))):=(Below.refl _ _).alloc (yb _) _;have d:=ah (u.trans (x.out.mono u.size));have O:=af.d wr _ rfl 179 #[J s,J H,.slice G y.length C,.string I];have L:=O.z 0;have M:=O.z 1;have N:=O.z 2;by_cases h1:(n:Int)<=(s:Int)
   .have D:Hid (l.all (Md.dr n)=false):=p.out (by rw[HMF.out];simp;omega);go_wp2_with fail;generalize wr.alloc (.cells #[J s,J H,.slice G y.length C,.string I] 179)=Z at x d L M N⊢;go_quiet (fail);go_wp2_with fail;go_ret;exact⟨by rw[D.out];rfl,below_drewN d _⟩
   have hd:decide (n<=s)=false:=by rw[decide_eq_false_iff_not];omega
   by_cases h2:(y.length:Int)=(n:Int)
   .obtain⟨B,rfl,a0,ht⟩:=t.out s ω;have E:=(x.out.cell (p:=(aT B s)) a0).trans ht;have a5:(s:Int)<(y.length:Int):=ω;have g2:((y.length:Int) !=(n:Int))=false:=by rw[h2];simp
    by_cases K:y.getD s 0=H
    .have D:Hid ((l.take (k+1)).all (Md.dr n)=true):=j.out (by rw[HMF.out,K];simp;omega);rw[K]at E;go_wp2_with fail;generalize wr.alloc (.cells #[J s,J H,sT B y.length C,.string I] 179)=Z at x d L M N E⊢;go_quiet (fail);go_wp2_with fail;exact⟨⟨k+1,ω,by go_num,below_drewN d _,D⟩,by simp[intOf];omega⟩
    have D:Hid (l.all (Md.dr n)=false):=p.out (by rw[HMF.out];simp only[beq_eq_false_iff_ne.2 K,Bool.and_false]);generalize y.getD s 0=z at K E;have g3:(z !=H)=true:=by rw[bne_iff_ne];exact K
    go_wp2_with fail;generalize wr.alloc (.cells #[J s,J H,sT B y.length C,.string I] 179)=Z at x d L M N E⊢;go_quiet (fail);go_wp2_with fail;go_ret;exact⟨by rw[D.out];rfl,below_drewN d _⟩
   have D:Hid (l.all (Md.dr n)=false):=p.out (by rw[HMF.out];simp;omega);have g2:((y.length:Int) !=(n:Int))=true:=by rw[bne_iff_ne];exact h2
   go_wp2_with fail;generalize wr.alloc (.cells #[J s,J H,.slice G y.length C,.string I] 179)=Z at x d L M N⊢;go_quiet (fail);go_wp2_with fail;go_ret;exact⟨by rw[D.out];rfl,below_drewN d _⟩
  have a2:¬(k:Int)<(l.length:Int):=ω;have D:Hid (l.all (Md.dr n)=true):=by have:=r.out;rwa [yX ω]at this
  go_wp2_with fail;go_ret;exact⟨by rw[D.out];rfl,(ah u)⟩
def vV(f:Codec.Frame)(n:Nat)(b:f.c=1\/f.c=2\/f.c=3\/f.c=4\/f.c=5\/f.c=6\/f.c=7)(L I D:Option Addr)(H F G:Nat)(w:Δ):ϖ 171 #[jq f (.slice L f.g.length H) (.slice I f.i.length F) (.slice D f.d.length G),J n] w λe T=>ϱ e (.bool (Md.cH f n))/\Below w w T:=by
 obtain⟨Q,E,O,K,N,d,q,B,C,A⟩:=f;simp only at b;unfold jq;simp only;obtain⟨v,c⟩:∃v,Md.cH ⟨Q,E,O,K,N,d,q,B,C,A⟩ n=v:=⟨_,rfl⟩;rw[c];unfold Md.cH at c;simp only at c;have u:(B.length==n)=decide ((B.length:Int)=(n:Int)):=by rw[Bool.eq_iff_iff];simp;omega
 have s:(C.length==n)=decide ((C.length:Int)=(n:Int)):=by rw[Bool.eq_iff_iff];simp;omega
 have x:(A.length==1)=decide ((A.length:Int)=1):=by rw[Bool.eq_iff_iff];simp;omega
 have t:(d !=0)= !decide (d=0):=by rw[Bool.eq_iff_iff];simp
 have r:(q==0)=decide (q=0):=by rw[Bool.eq_iff_iff];simp
 rw[u,s,x,t,r]at c;clear u s x t r;generalize B.length=y at c⊢;generalize C.length=z at c⊢;generalize A.length=M at c⊢;have m:=af.d w _ rfl 165 #[J Q,J E,J O,J K,J N,J d,J q,.slice L y H,.slice I z F,.slice D M G];have g:=m.a 0 _ rfl;have h:=m.a 5 _ rfl;have l:=m.a 6 _ rfl;have i:=m.a 7 _ rfl;have k:=m.a 8 _ rfl;have j:=m.a 9 _ rfl;simp only[yf,yd,ye]at g h l i k j;have a:Hid (Below w w (w.alloc (.cells #[J Q,J E,J O,J K,J N,J d,J q,.slice L y H,.slice I z F,.slice D M G] 165))):=(Below.refl _ _).alloc (yb _) _;have o:=ah c;clear m c;rcases b with rfl|rfl|rfl|rfl|rfl|rfl|rfl
 .by_cases R:y=(n:Int)<;>by_cases V:(M:Int)=1<;>
  (go_enter func171,ntmps171;go_wp21;generalize w.alloc _=p at a g h l i k j⊢;go_quiet (fail);go_wp21;go_ret;refine⟨?_,below_drewN a.out _⟩;rw[<-o.out];simp[*])
 .by_cases R:(y:Int)=(n:Int)<;>
  (go_enter func171,ntmps171;go_wp21;generalize w.alloc _=p at a g h l i k j⊢;go_quiet (fail);go_wp21;go_ret;refine⟨?_,below_drewN a.out _⟩;rw[<-o.out];simp[*])
 .rcases Decidable.em (d=0)with rfl|P<;>
  (go_enter func171,ntmps171;go_wp21;generalize w.alloc _=p at a g h l i k j⊢;go_quiet (fail);go_wp21;go_ret;refine⟨?_,below_drewN a.out _⟩;rw[<-o.out];simp[*])
 .rcases Decidable.em (d=0)with rfl|P<;>by_cases R:(y:Int)=(n:Int)<;>by_cases S:(z:Int)=(n:Int)<;>rcases Decidable.em (q=0)with rfl|U<;>
  (go_enter func171,ntmps171;go_wp21;generalize w.alloc _=p at a g h l i k j⊢;go_quiet (fail);go_wp21;go_ret;refine⟨?_,below_drewN a.out _⟩;rw[<-o.out];simp[*])
 .rcases Decidable.em (d=0)with rfl|P<;>by_cases S:(z:Int)=(n:Int)<;>
  (go_enter func171,ntmps171;go_wp21;generalize w.alloc _=p at a g h l i k j⊢;go_quiet (fail);go_wp21;go_ret;refine⟨?_,below_drewN a.out _⟩;rw[<-o.out];simp[*])
 .rcases Decidable.em (d=0)with rfl|P<;>
  (go_enter func171,ntmps171;go_wp21;generalize w.alloc _=p at a g h l i k j⊢;go_quiet (fail);go_wp21;go_ret;refine⟨?_,below_drewN a.out _⟩;rw[<-o.out];simp[*])
 by_cases S:(z:Int)=(n:Int)<;>
 (go_enter func171,ntmps171;go_wp21;generalize w.alloc _=p at a g h l i k j⊢;go_quiet (fail);go_wp21;go_ret;refine⟨?_,below_drewN a.out _⟩;rw[<-o.out];simp[*])
def vN(n:Nat)(a:n<=6):Md.bj (gD n)/\gD n=(2:Int)^n-1:=by
 match n,a with
 |0,_|1,_|2,_|3,_|4,_|5,_|6,_=>exact⟨⟨θ,θ⟩,θ⟩
def F9{w:Δ}{R:ϑ}(f:Codec.Frame)(j n:Nat)(hn:n<=6)(s:f.c=1\/f.c=2\/f.c=3\/f.c=4\/f.c=5\/f.c=6\/f.c=7)(I:Md.bj f.b)(h0:∀m∈f.d,0<=m.a)(E:f.d.length<=1000){rv cv mv:Θ}(Q:ud w R f rv cv mv):ϖ 116 #[jq f rv cv mv,J j,J n] w λe b=>ϱ e (.bool (Md.na f j n))/\Below w w b:=by
 obtain⟨G,B,Y⟩:=Q.row.h;obtain⟨C,F,U⟩:=Q.cut.h;obtain⟨x,A,L⟩:=Q.msgs.d;have hF:=vN n hn;have D:=af.d w _ rfl 165 #[J f.c,J f.f,J f.j,J f.b,J f.h,J f.a,J f.e,.slice G f.g.length B,.slice C f.i.length F,.slice x f.d.length A];have u:Hid (Below w w (w.alloc (.cells #[J f.c,J f.f,J f.j,J f.b,J f.h,J f.a,J f.e,.slice G f.g.length B,.slice C f.i.length F,.slice x f.d.length A] 165))):=(Below.refl _ _).alloc (yb _) _;have HM:Hid (∀b,Below w w b->ϖ 170 #[.slice x f.d.length A,J n] b λe i=>ϱ e (.bool (f.d.all (Md.dr n)))/\Below b b i):=λb hb=>by have:=zp f.d n mv (Q.msgs.c (gI hb)) h0 E;rw[L]at this;exact this
 have N:=ah λb=>vV f n s G C x B F A b;have HR:=ah (kO f.g n G B);have HC:=ah (kO f.i n C F);have HE:=ah λb=>ml n b hn;have hA:=(cK I hF.1).1;rw[Y,U,L];obtain⟨v,hv⟩:∃v,Md.na f j n=v:=⟨_,rfl⟩;have c:Hid (v=((f.j==(j:Int))&&(f.f !=(j:Int))&&decide (f.f<(n:Int))&&(Md.cX f.b (gD n)==0)&&Md.dp f.g n&&Md.dp f.i n&&f.d.all (Md.dr n)&&Md.cH f n)):=by rw[Hid,<-hv];unfold Md.na;rw[hF.2]
 rw[hv];clear hv hF;unfold jq;generalize f.g.length=rn at D u N HR⊢;generalize f.i.length=cn at D u N HC⊢;generalize f.d.length=V at D u N HM⊢;generalize Md.dp f.g n=b5 at HR c;generalize Md.dp f.i n=b6 at HC c;generalize f.d.all _=b7 at HM c;generalize Md.cH f n=b8 at N c;generalize Md.cX _ (gD n)=z at hA c;obtain⟨fk,O,fd,fm,fv,fb,fo,Q,fc,fg⟩:=f;simp only at D u N hA c⊢;go_enter func116,ntmps116;refine wp_seq_k λK d=>?_;have a0:=ah d;clear d;go_wp21;refine a0.out _ _ ?_;have Z:Hid ((w.alloc (.cells #[J fk,J O,J fd,J fm,J fv,J fb,J fo,.slice G rn B,.slice C cn F,.slice x V A] 165))=w.heap.size+1):=by simp[Hid]
 generalize w.alloc _=l at D u Z⊢;have o:Hid (∀b,Below l l b->ε b w 0 (J fk)/\ε b w 1 (J O)/\ε b w 2 (J fd)/\ε b w 3 (J fm)/\ε b w 4 (J fv)/\ε b w 5 (J fb)/\ε b w 6 (J fo)/\ε b w 7 (.slice G rn B)/\ε b w 8 (.slice C cn F)/\ε b w 9 (.slice x V A)):=λb t=>by have:=D.c t D.f;exact⟨this.y 0,this.y 1,this.y 2,this.y 3,this.y 4,this.y 5,this.y 6,this.y 7,this.y 8,this.y 9⟩
 have T:Hid (∀b,Below l l b->ϖ 170 #[.slice x V A,J n] b λe i=>ϱ e (.bool b7)/\Below l l i):=λb t=>by refine(HM.out b (u.out.trans (t.mono u.out.size))).m ?_;rintro i h;exact⟨rfl,t.trans (h.mono t.size)⟩
 have W:Hid (∀b,Below l l b->ϖ 171 #[.agg #[J fk,J O,J fd,J fm,J fv,J fb,J fo,.slice G rn B,.slice C cn F,.slice x V A],J n] b λe i=>ϱ e (.bool b8)/\Below l l i):=λb t=>by refine(N.out b).m ?_;rintro i h;exact⟨rfl,t.trans (h.mono t.size)⟩
 have g:Hid (∀b,Below l l b->Below w w b):=λb t=>u.out.trans (t.mono u.out.size);generalize w.heap.size=X at o g⊢;go_wp21;refine wp_region_held_drew (S:=λb=>ε b X 0 (J fk)/\ε b X 1 (J O)/\ε b X 2 (J fd)/\ε b X 3 (J fm)/\ε b X 4 (J fv)/\ε b X 5 (J fb)/\ε b X 6 (J fo)/\ε b X 7 (.slice G rn B)/\ε b X 8 (.slice C cn F)/\ε b X 9 (.slice x V A)) rfl (o.out _ (Below.refl _ _).drew) λa=>?_;(iterate 3 refine ψ ?_);cases y:(fd==j)
 ·(iterate 45 refine ψ ?_)
  refine wpAnyH_done κ ?_ _;go_wp21;go_ret;exact⟨by rw[c.out,y];rfl,g.out _ (Below.refl _ _).drew⟩
 refine wk 3 ?_;refine wk 4 ?_;refine wk 5 ?_;refine wk 6 ?_;refine wk 7 ?_;cases H:(O !=(j:Int))
 .refine wk 8 ?_;refine wk 9 ?_;refine wk 10 ?_;refine wk 11 ?_;refine wk 12 ?_;refine wk 13 ?_;refine wk 14 ?_;refine wk 15 ?_;refine wk 16 ?_;refine wk 17 ?_;refine wk 18 ?_;refine wk 19 ?_;refine wk 20 ?_;refine wk 21 ?_;refine wk 22 ?_;refine wk 23 ?_;refine wk 24 ?_;refine wk 25 ?_;refine wk 26 ?_;refine wk 27 ?_;refine wk 28 ?_;refine wk 29 ?_;refine wk 30 ?_;refine wk 31 ?_;refine wk 32 ?_;refine wk 33 ?_;refine wk 34 ?_;refine wk 35 ?_;refine wk 36 ?_;refine wk 37 ?_;refine wk 38 ?_;refine wk 39 ?_;refine wk 40 ?_;refine wk 41 ?_;refine wk 42 ?_;refine wk 43 ?_;refine wk 44 ?_;refine wk 45 ?_;refine wk 46 ?_;refine wk 47 ?_;refine wpAnyH_done κ ?_ _;go_wp21;go_ret;exact⟨by rw[c.out,y,H];rfl,g.out _ (Below.refl _ _).drew⟩
 refine wk 8 ?_;refine wk 9 ?_;refine wk 10 ?_;refine wk 11 ?_;refine wk 12 ?_;refine wk 13 ?_;cases M:decide (O<(n:Int))
 .refine wk 14 ?_;refine wk 15 ?_;refine wk 16 ?_;refine wk 17 ?_;refine wk 18 ?_;refine wk 19 ?_;refine wk 20 ?_;refine wk 21 ?_;refine wk 22 ?_;refine wk 23 ?_;refine wk 24 ?_;refine wk 25 ?_;refine wk 26 ?_;refine wk 27 ?_;refine wk 28 ?_;refine wk 29 ?_;refine wk 30 ?_;refine wk 31 ?_;refine wk 32 ?_;refine wk 33 ?_;refine wk 34 ?_;refine wk 35 ?_;refine wk 36 ?_;refine wk 37 ?_;refine wk 38 ?_;refine wk 39 ?_;refine wk 40 ?_;refine wk 41 ?_;refine wk 42 ?_;refine wk 43 ?_;refine wk 44 ?_;refine wk 45 ?_;refine wk 46 ?_;refine wk 47 ?_;refine wpAnyH_done κ ?_ _;go_wp21;go_ret;exact⟨by rw[c.out,y,H,M];rfl,g.out _ (Below.refl _ _).drew⟩
 refine wk 14 ?_;refine wk 15 ?_;refine wk 16 ?_;refine wk 17 ?_;refine wk 18 ?_;refine wk 19 ?_;refine we 20 λK d=>?_;go_simp;refine(HE.out _).m ?_;rintro S rfl;refine d.out _ _ (o.out _ (Below.refl _ _).drew) λa=>?_;refine wk 21 ?_;cases P:(z==0)
 .refine wk 22 ?_;refine wk 23 ?_;refine wk 24 ?_;refine wk 25 ?_;refine wk 26 ?_;refine wk 27 ?_;refine wk 28 ?_;refine wk 29 ?_;refine wk 30 ?_;refine wk 31 ?_;refine wk 32 ?_;refine wk 33 ?_;refine wk 34 ?_;refine wk 35 ?_;refine wk 36 ?_;refine wk 37 ?_;refine wk 38 ?_;refine wk 39 ?_;refine wk 40 ?_;refine wk 41 ?_;refine wk 42 ?_;refine wk 43 ?_;refine wk 44 ?_;refine wk 45 ?_;refine wk 46 ?_;refine wk 47 ?_;refine wpAnyH_done κ ?_ _;go_wp21;go_ret;exact⟨by rw[c.out,y,H,M,P];rfl,g.out _ (Below.refl _ _).drew⟩
 refine wk 22 ?_;refine wk 23 ?_;refine wk 24 ?_;refine wk 25 ?_;refine wk 26 ?_;refine wk 27 ?_;cases b5
 .refine we 28 λK d=>?_;go_simp;refine(HR.out _).m ?_;rintro S rfl;refine d.out _ _ (o.out _ (Below.refl _ _).drew) λa=>?_;refine wk 29 ?_;refine wk 30 ?_;refine wk 31 ?_;refine wk 32 ?_;refine wk 33 ?_;refine wk 34 ?_;refine wk 35 ?_;refine wk 36 ?_;refine wk 37 ?_;refine wk 38 ?_;refine wk 39 ?_;refine wk 40 ?_;refine wk 41 ?_;refine wk 42 ?_;refine wk 43 ?_;refine wk 44 ?_;refine wk 45 ?_;refine wk 46 ?_;refine wk 47 ?_;refine wpAnyH_done κ ?_ _;go_wp21;go_ret;exact⟨by rw[c.out,y,H,M,P];rfl,g.out _ (Below.refl _ _).drew⟩
 refine we 28 λK d=>?_;go_simp;refine(HR.out _).m ?_;rintro S rfl;refine d.out _ _ (o.out _ (Below.refl _ _).drew) λa=>?_;refine wk 29 ?_;refine wk 30 ?_;refine wk 31 ?_;refine wk 32 ?_;refine wk 33 ?_;cases b6
 .refine we 34 λK d=>?_;go_simp;refine(HC.out _).m ?_;rintro S rfl;refine d.out _ _ (o.out _ (Below.refl _ _).drew) λa=>?_;refine wk 35 ?_;refine wk 36 ?_;refine wk 37 ?_;refine wk 38 ?_;refine wk 39 ?_;refine wk 40 ?_;refine wk 41 ?_;refine wk 42 ?_;refine wk 43 ?_;refine wk 44 ?_;refine wk 45 ?_;refine wk 46 ?_;refine wk 47 ?_;refine wpAnyH_done κ ?_ _;go_wp21;go_ret;exact⟨by rw[c.out,y,H,M,P];rfl,g.out _ (Below.refl _ _).drew⟩
 refine we 34 λK d=>?_;go_simp;refine(HC.out _).m ?_;rintro S rfl;refine d.out _ _ (o.out _ (Below.refl _ _).drew) λa=>?_;refine wk 35 ?_;refine wk 36 ?_;refine wk 37 ?_;refine wk 38 ?_;refine wk 39 ?_;cases b7
 .refine we 40 λK d=>?_;go_simp;refine(T.out _ (Below.refl _ _).drew).m ?_;rintro S q;have k:=ah q;refine d.out _ _ (o.out _ k) λa=>?_;refine wk 41 ?_;refine wk 42 ?_;refine wk 43 ?_;refine wk 44 ?_;refine wk 45 ?_;refine wk 46 ?_;refine wk 47 ?_;refine wpAnyH_done κ ?_ _;go_wp21;go_ret;exact⟨by rw[c.out,y,H,M,P];rfl,g.out _ k⟩
 refine we 40 λK d=>?_;go_simp;refine(T.out _ (Below.refl _ _).drew).m ?_;rintro S q;have k:=ah q;refine d.out _ _ (o.out _ k) λa=>?_;refine wk 41 ?_;refine wk 42 ?_;refine wk 43 ?_;refine wk 44 ?_;cases b8
 .refine we 45 λK d=>?_;go_simp;refine(W.out _ k).m ?_;rintro w3 p;have r:=ah p;refine d.out _ _ (o.out _ r) λa=>?_;refine wk 46 ?_;refine wk 47 ?_;refine wpAnyH_done κ ?_ _;go_wp21;go_ret;exact⟨by rw[c.out,y,H,M,P];rfl,g.out _ r⟩
 refine we 45 λK d=>?_;go_simp;refine(W.out _ k).m ?_;rintro w3 p;have r:=ah p;refine d.out _ _ (o.out _ r) λa=>?_;refine wk 46 ?_;refine wk 47 ?_;refine wpAnyH_done κ ?_ _;go_wp21;go_ret;exact⟨by rw[c.out,y,H,M,P];rfl,g.out _ r⟩
variable {base:Nat}
def wG{n j:Nat}{e:TypeId}{v:Θ}{i:List Θ}(l:∀x,base<=x->R x)(h:w.ownsRow base e j v n i):eB w R e j v n i:=by refine⟨⟨h.1,?_⟩,λg k=>l g (h.lt g k).1⟩;rcases h.2 with c|⟨g,a,d,c,-,m⟩;exact .inl c;exact .inr ⟨g,a,d,c,oI _,m⟩
def mC:∀{l:List Codec.Msg}{vs:List Θ}{i:Nat}{m:Codec.Msg}{v:Θ},l[i]?=some m->vs[i]?=some v->(aI l vs)[i*4]?=some (J m.a)/\(aI l vs)[i*4+1]?=some (J m.seq)/\(aI l vs)[i*4+2]?=some v/\(aI l vs)[i*4+3]?=some (.string m.b)
 |x::L,u::vs,0,a,v,d,c=>by cases d;cases c;exact⟨rfl,rfl,rfl,rfl⟩
 |x::L,u::vs,i+1,a,v,d,c=>by have:=mC (i:=i) d c;simp only[aI];rw[show (i+1)*4=i*4+4 by omega];exact this
 |[],_,_,_,_,d,_=>by cases d
 |_::_,[],_,_,_,_,c=>by cases c
def dn.r{s y n:Θ}{a:List Θ}(k:∀x,base<=x->R x)(h:dn w base f s y n a):ud w R f s y n:=by
 refine⟨wG k h.row,wG k h.cut,?_⟩;obtain⟨C,p,A⟩:=h.msgs;rcases p.2 with ⟨e,v⟩|⟨g,q,I,e,H,v⟩;exact .inl ⟨⟨_,_,e⟩,List.length_eq_zero_iff.1 v⟩;have c:n.ownBlock=some g:=by rw[e];rfl
 refine .inr ⟨g,q,e,(p.lt g c).2,k g H,λj m l=>?_⟩;have r:j<a.length:=by rw[C];exact(ym.1 l).1
 have t:=yh r;obtain⟨D,z,E,G⟩:=mC l t;have d:=λi u B=>p.cells c i u B;simp only[lu]at d;exact⟨a[j],d _ _ D,d _ _ z,d _ _ E,d _ _ G,wG k (A j m _ l t)⟩
def xY{f:Codec.Frame}(h:Codec.dg f=true):(f.c=1\/f.c=2\/f.c=3\/f.c=4\/f.c=5\/f.c=6\/f.c=7)/\Md.bj f.b/\(∀m∈f.d,0<=m.a)/\f.d.length<=1000:=by simp only[Codec.dg,Codec.dk,Codec.bS,Codec.aA,Codec.cd,Codec.aK,yB,Codec.de,y5,decide_eq_true_eq]at h;obtain⟨⟨⟨⟨⟨⟨⟨e,i⟩,-⟩,g⟩,-⟩,-⟩,-⟩,j,a⟩:=h;refine⟨ω,⟨ω,ω⟩,λm c=>?_,ω⟩;obtain⟨⟨⟨d,-⟩,-⟩,-⟩:=a m c;omega
def vp{S:PS}(h:S.MC=0):S.out=false:=by unfold PS.MC at h;cases a:S.f<;>cases c:S.out<;>simp[a,c]at h⊢
def rI(p:PP w F b S o)(wf:Wf S)(s:List UInt8)(hl:s.length<=140737488351232)(hs:S.e.length<=800000):Do 74 #[pT b 0,.string ⟨s.toArray⟩] (.tuple #[]) w F b o (S.Mn s):=by
 have HA:=ah (oD p);have HW:Hid (S.Mn s=if S.MC=0&&Codec.bM s&&Md.na (Codec.bO s).1 S.c S.n then S.MW (Codec.bO s).1 else S):=rfl;have P:=ah p;have WF:Hid (Wf S):=wf;generalize S.Mn s=Z at HW⊢;by_cases W:S.MC=0
 .rw[W]at HA;cases hf:Codec.bM s
  .have HD:=ah (BS s w hl hf);have HZ:Hid (Z=S):=by rw[Hid,HW.out,hf];simp
   go_enter func74,ntmps74;go_wp21;refine HA.out.m ?_;rintro w2 rfl;go_wp21;refine HD.out.m ?_;rintro c l;have k:=ah l;go_wp21;have j:Hid (Below w2 w2 (c.alloc (.cells #[J 0,J 0,J 0,J 0,J 0,J 0,J 0,sN,sN,sN] 165))):=k.out.trans ((Below.refl _ _).alloc k.out.size _);generalize c.alloc _=w4 at j⊢;refine wp_region_held_drew (S:=λ_=>True) rfl trivial λg=>?_;(iterate 15 refine ψ ?_);refine wpAnyH_done κ ?_ _;go_wp21;(try simp);refine bodyPost_ret (results_none rfl _ _ _) rfl ?_;exact⟨rfl,o,by rw[HZ.out];exact P.out.d j.out.drew⟩
  obtain⟨m,a0⟩:Codec.dg (Codec.bO s).1=true/\Codec.im (Codec.bO s).1=s:=by unfold Codec.bM at hf;simpa using hf
  have HD:Hid (ϖ 115 _ _ _):=xV s (Codec.bO s).1 (Codec.bO s).2 w hl rfl m a0;have v:Hid (Z=if Md.na (Codec.bO s).1 S.c S.n then S.MW (Codec.bO s).1 else S):=by rw[Hid,HW.out,hf,W];simp
  have t:=xY m;have O:Hid (∀a Q T U z,Below w w a->dn a w (Codec.bO s).1 Q T U z->∀d,Below a a d->ud d (o.R F b) (Codec.bO s).1 Q T U/\PP d F b S o):=λa Q T U z G B d Y=>
   ⟨(B.r λx u=>P.out.g u).a (gI Y),(P.out.c G).c Y⟩
  have N:Hid (Md.na (Codec.bO s).1 S.c S.n=true->FrW S.n (Codec.bO s).1):=Md.LB m;generalize (Codec.bO s).1=f at HD v t O N;have i:Hid (∀a Q T U,ud a (o.R F b) f Q T U->ϖ 116 #[jq f Q T U,J S.c,J S.n] a λe d=>ϱ e (.bool (Md.na f S.c S.n))/\Below a a d):=λa Q T U a4=>F9 f S.c S.n WF.out.c t.1 t.2.1 t.2.2.1 t.2.2.2 a4;have a1:Hid (∀a,Below w w a->ε a b 0 (J S.c)/\ε a b 1 (J S.n)):=λa hw=>⟨(P.out.c hw).a.a 0 _ rfl,(P.out.c hw).a.a 1 _ rfl⟩;go_enter func74,ntmps74;go_wp21;refine HA.out.m ?_;rintro w2 rfl;go_wp21;refine HD.out.mono ?_;rintro e c⟨Q,T,U,z,rfl,B,l⟩;obtain⟨q,p3⟩:=O.out c Q T U z l B c (Below.refl _ _);obtain⟨ro,rn,rk,rfl⟩:=q.row.a;obtain⟨co,cn,ck,rfl⟩:=q.cut.a;obtain⟨mo,mn,mk,rfl⟩:=q.msgs.a;have HG:=ah (O.out c _ _ _ z l B);have k:=ah l;obtain⟨H,I,M,C,E,L,D,fr,fc,fg⟩:=f;unfold jq at i;simp only at i⊢;go_wp21;have HX:=af.d c c rfl 165 #[J H,J I,J M,J C,J E,J L,J D,.slice ro rn rk,.slice co cn ck,.slice mo mn mk];have j:Hid (Below c c (c.alloc (.cells #[J H,J I,J M,J C,J E,J L,J D,.slice ro rn rk,.slice co cn ck,.slice mo mn mk] 165))):=(Below.refl _ _).alloc (yb _) _;generalize c.alloc (.cells #[J H,J I,J M,J C,J E,J L,J D,.slice ro rn rk,.slice co cn ck,.slice mo mn mk] 165)=w4 at HX j⊢;have HS:Hid (∀a,Below w4 w4 a->(ε a c 0 (J H)/\ε a c 1 (J I)/\ε a c 2 (J M)/\ε a c 3 (J C)/\ε a c 4 (J E)/\ε a c 5 (J L)/\ε a c 6 (J D)/\ε a c 7 (.slice ro rn rk)/\ε a c 8 (.slice co cn ck)/\ε a c 9 (.slice mo mn mk)/\ε a b 0 (J S.c)/\ε a b 1 (J S.n))/\Below c c a):=λa hw=>by have u:=HX.c hw HX.f;have G:=j.out.trans (hw.mono j.out.size);have hc:=a1.out a (k.out.trans (G.mono k.out.size));exact⟨⟨u.y 0,u.y 1,u.y 2,u.y 3,u.y 4,u.y 5,u.y 6,u.y 7,u.y 8,u.y 9,hc.1,hc.2⟩,G⟩
  have y:Hid (∀a,Below c c a->Below w2 w2 a):=λa G=>k.out.trans (G.mono k.out.size);have HT:Hid (ϖ 116 #[.agg #[J H,J I,J M,J C,J E,J L,J D,.slice ro rn rk,.slice co cn ck,.slice mo mn mk],J S.c,J S.n] w4.drew λe d=>ϱ e (.bool (Md.na ⟨H,I,M,C,E,L,D,fr,fc,fg⟩ S.c S.n))/\Below w4 w4 d):=by refine(i.out w4.drew _ _ _ (HG.out _ j.out.drew).1).m ?_;rintro d h;exact⟨rfl,(Below.refl _ _).drew.trans (h.mono (yb _))⟩
  refine wp_region_held_drew (S:=λa=>ε a c 0 (J H)/\ε a c 1 (J I)/\ε a c 2 (J M)/\ε a c 3 (J C)/\ε a c 4 (J E)/\ε a c 5 (J L)/\ε a c 6 (J D)/\ε a c 7 (.slice ro rn rk)/\ε a c 8 (.slice co cn ck)/\ε a c 9 (.slice mo mn mk)/\ε a b 0 (J S.c)/\ε a b 1 (J S.n)) rfl (HS.out _ (Below.refl _ _).drew).1 λg=>?_;(iterate 12 refine ψ ?_);refine we 12 λK hK=>?_;go_simp;refine HT.out.m ?_;rintro w5 a3;have V:=ah a3;refine hK.out _ _ (HS.out _ V).1 λg=>?_;cases A:Md.na ⟨H,I,M,C,E,L,D,fr,fc,fg⟩ S.c S.n
  .have HZ:Hid (Z=S):=by rw[Hid,v.out,A];rfl
   (iterate 2 refine ψ ?_)
   refine wpAnyH_done κ ?_ _;go_wp21;(try simp);refine bodyPost_ret (results_none rfl _ _ _) rfl ?_;exact⟨rfl,o,by rw[HZ.out];exact P.out.d (y.out _ (HS.out _ V).2)⟩
  have HZ:Hid (Z=S.MW ⟨H,I,M,C,E,L,D,fr,fc,fg⟩):=by rw[Hid,v.out,A];rfl
  have HH:Hid (ϖ 117 #[pT b 0,.agg #[J H,J I,J M,J C,J E,J L,J D,.slice ro rn rk,.slice co cn ck,.slice mo mn mk]] w5 λe d=>ϱ e (.tuple #[])/\∃o',To w2 F b o d Z o'):=by have G:=(HS.out _ V).2;rw[HZ.out];exact(P.out.d (y.out _ G)).g (B8 (HG.out _ G).2 WF (ah (vp W)) (N.out A) (HG.out _ G).1 (ah hs))
  refine wk 13 ?_;refine wk 14 ?_;refine wpAnyH_done κ ?_ _;obtain⟨d0,d1,d2,d3,d4,d5,d6,d7,d8,d9,-,-⟩:=(HS.out _ V).1;go_wp21;refine HH.out.m ?_;rintro w6 h6;go_wp21;go_end0;exact⟨rfl,(ah h6)⟩
 have HZ:Hid (Z=S):=by rw[Hid,HW.out];simp[W]
 have a5:=W;go_enter func74,ntmps74;go_wp21;refine HA.out.m ?_;rintro w2 rfl;go_wp21;(try simp);refine bodyPost_ret (results_none rfl _ _ _) rfl ?_;exact⟨rfl,o,by rw[HZ.out];exact To.f P⟩
end
section
open Go.RowKit
open Md (PS Vote Bal Lft Wf MsgW Sends FrW tickF)
variable {w w' wb:Δ}{F:ϑ}{b X:Nat}{S S':PS}{o o1 o':Pl}{f:Codec.Frame}{l:List (List UInt8)}
def xd(U:PS)(L:List Nat)(k:Nat):Sends U (aG tickF L U k) (k*(1+U.o.length)):=(Md.gW U _).c (Nat.mul_le_mul (by rw[xk];omega) (yb _))
def GF{a:Int}{n q:Nat}(h:q∈Md.iX a n):q<n:=by have:=(yM.1 h).1;simpa using this
def AB(p:PP w F b S o)(N:Wf S)(hT:CH w)(hs:S.e.length<=600000):Do 71 #[pT b 0] (J S.MC) w F b o S.tick:=by
 have HA:=ah (oD p);by_cases Q:S.MC=0
 .have I:Hid (S.tick=S.Me.L8.foldl tickF S.Me):=by rw[Hid,Md.oB,if_pos Q]
  have E:=ah (qF p N hT (vp Q) ω);have j:=ah N.l;have G:Hid (S.Me.e.length<=600018):=by have:=Md.ft N.c;unfold Md.cS at this;unfold Hid;omega
  rw[Q]at HA⊢;generalize S.Me=U at I E j G;generalize S.tick=Z at I⊢;go_enter func71,ntmps71;go_wp2_with fail;refine HA.out.m ?_;rintro w2 rfl;go_wp2_with fail;refine E.out.m ?_;rintro w1⟨o1,h1⟩;have O:=ah h1;have Y:U.L8.length<=6:=yr (gG _ U.n) j.out.c;go_wp2_with fail;refine(ah (nm O.out.c j)).out.mono ?_;rintro e W⟨v,rfl,x,M⟩;obtain⟨ao,c,rfl,-⟩:=fN x λ_ _ _=>rfl;have H3:=ah (O.out.a (O.out.c.d M));have HEND:Hid (∀wr d,To W F b o1 wr (aG tickF U.L8 U U.L8.length) d->∃d,To w2 F b o wr Z d):=λwr d h=>⟨d,by rw[I.out,<-iH];exact H3.out.a h⟩;have H0:=ah (To.f H3.out.c);have a:Hid (∀(k:Nat)wr d,k<U.L8.length->To W F b o1 wr (aG tickF U.L8 U k) d->∃q g:Nat,ao=some ⟨g,0,none⟩/\ε wr g k (J q)/\ϖ 111 #[pT b 0,J q] wr λe K=>ϱ e (.tuple #[])/\ε K b 5 (.bool U.h)/\(U.h=true->∃C,To W F b o1 K (aG tickF U.L8 U (k+1)) C)/\(U.h=false->ϖ 112 #[pT b 0,J q] K λe w5=>ϱ e (.tuple #[])/\∃C,To W F b o1 w5 (aG tickF U.L8 U (k+1)) C)):=λk wr d hk h=>by
   have R:=yh hk;obtain⟨a8,c',a1,H⟩:=fN (w':=wr) x λg hg A=>h.e.block g A λe=>by have:=O.out.c.h e;omega
   injection a1 with e1 _ _;subst e1;obtain⟨g,hg,hc⟩:=H k _ R;have t:=xd U U.L8 k;have a6:=H3.out.c.u j;have T:k*(1+U.o.length)<=6*127:=Nat.mul_le_mul ω ω;have D:(aG tickF U.L8 U k).h=U.h:=by rw[t.e]
   have a0:(aG tickF U.L8 U k).n=U.n:=by rw[t.e]
   have b0:=t.b;have a9:=G.out;refine⟨_,g,hg,hc,(BY h.c (t.d j) ω _).mono ?_⟩;rintro e K⟨rfl,o4,h4⟩;have z:Sends (aG tickF U.L8 U k) ((aG tickF U.L8 U k).gossip U.L8[k]) 1:=Md.ak _ _;have a3:((aG tickF U.L8 U k).gossip U.L8[k]).h=U.h:=by rw[z.e];exact D
   have u:aG tickF U.L8 U (k+1)=tickF (aG tickF U.L8 U k) U.L8[k]:=jb R;refine⟨rfl,?_,λhb=>⟨o4,?_⟩,λhb=>?_⟩;have:=h4.c.a.z 5;simp only[a3]at this;exact this;rw[u,tickF,D,hb];exact h.a h4;rw[u,tickF,D,hb];exact(h.a h4).g (qj h4.c (z.d (t.d j)) (by have:=z.b;omega) _ (by rw[show ((aG tickF U.L8 U k).gossip U.L8[k]).n=U.n by rw[z.e];exact a0];exact(GF (AF hk))))
  generalize U.L8=L at Y HEND H0 a;generalize a2:U.h=bl at a;go_wp2_with fail;go_loopw [16] (λi wr=>∃k:Nat,k<=L.length/\i=J k/\∃d,To W F b o1 wr (aG tickF L U k) d) λi _=>L.length-(intOf i).toNat
  case atStart=>exact⟨0,ω,rfl,_,H0⟩
  case round=>
   obtain⟨k,hk,rfl,d,ht⟩:=hrel;by_cases A:k<L.length
   .have a5:k<(L.length:Int):=ω;have b1:(0:Int)<=(k:Int):=ω;obtain⟨q,g,rfl,cg,s⟩:=a.out k wr d A ht;have HC:Hid (ϖ 111 _ _ _):=s;go_wp2_with fail;refine HC.out.m ?_;rintro K⟨c5,y,B⟩;cases bl with
    |true=>
     have HY:=ah (y rfl);go_wp2_with fail;exact⟨⟨k+1,ω,by go_num,HY⟩,by simp[intOf];omega⟩
    |false=>
     have HN:Hid (ϖ 112 _ _ _):=B rfl;go_wp2_with fail;refine HN.out.m ?_;rintro w5 h5;go_wp2_with fail;exact⟨⟨k+1,ω,by go_num,(ah h5)⟩,by simp[intOf];omega⟩
   have a7:¬(k:Int)<(L.length:Int):=ω;have T:k=L.length:=ω;have HT:Hid (∃d,To w2 F b o wr Z d):=HEND.out wr d (by rw[<-T];exact ht);go_wp2_with fail;go_ret;exact⟨rfl,HT⟩
 have I:Hid (S.tick=S):=by rw[Hid,Md.oB,if_neg Q]
 rw[I.out];go_enter func71,ntmps71;go_wp2_with fail;refine HA.out.m ?_;rintro w2 rfl;go_wp2_with fail;go_ret;exact⟨rfl,o,To.f (ah p)⟩
def To.i{g:PS}(h:To w F b o w' g o')(p:PP w F b S o)(a:CH w)(d:¬F 1):CH w':=λi c=>
 (World.cell?_of_block (h.e.block 1 (World.block_lt_of_cell? w _ (a i c)) λe=>d (p.mf e))).trans (a i c)
def Wf.Ac(l:List (List UInt8))(c:Wf S):Wf (l.foldl PS.Mn S):=Wf.q (λ_ s a=>Wf.o a s) l S c
def tD(S:PS)(l:List (List UInt8))(k:Nat):PS:=(l.take k).foldl PS.Mn S
def BH{k:Nat}{s:List UInt8}(h:l[k]?=some s):tD S l (k+1)=(tD S l k).Mn s:=by obtain⟨a,rfl⟩:=ym.1 h;unfold tD;rw[<-List.take_append_getElem a,List.foldl_append];rfl
def GM(p:PP w F b S o)(y:Wf S)(P:CH w)(M:¬F 1)(Z:S.e.length<=100000)(a2:l.length<=40000)(t:∀s∈l,s.length<=140737488351232){v:Θ}(H:eB w (o.R F b) 9 1 v l.length (l.map λs=>Value.string ⟨s.toArray⟩)):Do 101 #[pT b 0,v] (.tuple #[]) w F b o (S.Nc l):=by
 obtain⟨N,Y,rfl⟩:=bG H.d;have HSTEP:Hid (∀(k:Nat)wr j,k<l.length->To w F b o wr (tD S l k) j->∃(s:List UInt8)(g:Nat),N=some ⟨g,0,none⟩/\ε wr g k (.string ⟨s.toArray⟩)/\Calls _ 74 #[pT b 0,.string ⟨s.toArray⟩] wr λe r=>ϱ e _/\∃n,To w F b o r (tD S l (k+1)) n):=λk wr j G h=>by
  have A:=yh G;have u:=H.f h.d;rcases u.d.2 with ⟨-,z⟩|⟨g,W,a1,z,-⟩;omega;have I:(Value.slice N l.length Y).ownBlock=some g:=by rw[z];rfl
  have Q:=u.d.cells I k (.string ⟨l[k].toArray⟩) (by simp[A]);rw[lu]at Q;injection z with z;refine⟨l[k],g,z,Q,?_⟩;have K:=Md.fH (l.take k) S y.c;unfold Md.cS at K;rw[BH A];exact h.g (rI h.c (Wf.Ac (l.take k) y) l[k] (t _ (AF G)) (by
   show ((l.take k).foldl PS.Mn S).e.length<=800000;have:(l.take k).length<=40000:=by rw[xk];omega
   omega))
 have m:Hid (∀wr j,To w F b o wr (tD S l l.length) j->ϖ 71 #[pT b 0] wr λe r=>(∃x,ϱ e (J x))/\∃n,To w F b o r (S.Nc l) n):=λwr j h=>by
  have e:tD S l l.length=l.foldl PS.Mn S:=by unfold tD;rw[AE]
  rw[e]at h;have K:=Md.fH l S y.c;unfold Md.cS at K;refine(h.g (AB h.c (Wf.Ac l y) (h.i p P M) ω)).m ?_;rintro r q;exact⟨⟨_,rfl⟩,q⟩
 go_enter func101,ntmps101;go_wp2_with fail;go_loopw [8] (λi wr=>∃k:Nat,k<=l.length/\i=J k/\∃j,To w F b o wr (tD S l k) j) λi _=>l.length-(intOf i).toNat
 case atStart=>exact⟨0,ω,rfl,_,(ah (To.f p))⟩
 case round=>
  obtain⟨k,G,rfl,j,B⟩:=hrel;by_cases D:k<l.length
  .have O:k<l.length:=ω;have a0:0<=k:=ω;obtain⟨s,g,rfl,cg,d⟩:=HSTEP.out k wr j D B;go_wp2_with fail;refine(ah d).out.m ?_;rintro r q;go_wp2_with fail;exact⟨⟨k+1,ω,by go_num,(ah q)⟩,by simp[intOf];omega⟩
  have V:¬k<l.length:=ω;have C:k=l.length:=ω;go_wp2_with fail;refine(ah (m.out wr j (by rw[<-C];exact B))).out.mono ?_;rintro e r⟨⟨x,rfl⟩,q⟩;go_wp2_with fail;go_end0;exact⟨rfl,(ah q)⟩
open Go.ChangeMaps (setBlock)
def mF(num:Nat)(ks:List (Int×Int)):Nat:=(ks.filter λk=>k.1==(num:Int)).length
def EW(a:Nat)(c:List (Int×Int)):mF a c<=c.length:=G3 _ _
def oe(p:PP w F b S o)(wf:Wf S):ϖ 182 #[pT b 0] w λe w'=>ϱ e (J ((S.o.filter λm=>m.a==(S.c:Int)).length:Nat))/\Below w w w':=by
 have a1:=p.a.a 15 _ rfl;simp only[yf,yd,ye]at a1;have a5:Hid (∀w',Below w w w'->ε w' b 0 (J S.c)):=λw' hw=>(p.c hw).a.a 0 _ rfl;have C:=p.e.o.b;have d:=p.e.o.born;have a7:=ah d;have N:Hid (∀e∈o.n.toList,∃s q:Int,∃v,oh e.key=(s,q)/\e.key=.agg #[J s,J q]/\e.val=v):=λe M=>by obtain⟨i,hi,rfl⟩:=y4 M;obtain⟨x,-,hk,-⟩:=p.e.o.at (yh hi);exact⟨_,_,_,by rw[hk];rfl,hk,rfl⟩
 have z:=p.e.map;have b0:o.n.toList.length<=126:=by have h1:=p.u wf;have h2:=p.e.o.a;rw[<-p.ms,yL]at h1;rw[AG];omega
 have A:Hid (∀h:List MapEntry,h.Perm o.n.toList->mF S.c (aH h)=(S.o.filter λm=>m.a==(S.c:Int)).length):=λh hv=>by have h1:(aH h).Perm (aH o.n.toList):=hv.map _;rw[vU p.e.o]at h1;have h2:=(h1.filter λk=>k.1==(S.c:Int)).length_eq;unfold mF;rw[h2,<-p.ms,List.filter_map,List.filter_map,yL,yL];rfl
 clear p wf;generalize (S.o.filter λm=>m.a==(S.c:Int)).length=Z at A⊢;generalize o.n=V at*;generalize o.m=t at*;generalize o.j=D at*;go_enter func182,ntmps182;go_wp2_with (at_range;refine eO _ rfl _ 156 186 179 rfl underlying156 rfl z C d ?_;intro W);go_frame;go_loopw [3] (λc wr=>∃k:Nat,c=J k/\k<=126/\∃a h B,cm wr t _ V D a/\Below _ w wr/\gY V a h B/\Hid (k=mF S.c (aH h))) λ_ wr=>eN wr t w.heap.size
 case atStart=>exact⟨0,rfl,ω,#[],[],_,W,(Below.refl _ _).alloc (yb _) _,⟨List.Perm.refl _,λe _=>ς,λe M=>by cases M⟩,rfl⟩
 case round=>
  obtain⟨k,rfl,E,a,h,B,hR,hB,hV,P⟩:=hrel;have a0:=hR.b;have HB:=ah hB;have HV:=ah hV;clear W z C d hB hV;go_wp2_with (at_next;refine fB _ rfl _ rfl t w.heap.size rfl hR ?_ ?_)
  .intro h0;have HK:Hid (k=Z):=by rw[Hid,P.out];exact A.out h (HV.out.d (by simpa using h0))
   clear h0;go_wp2_with fail;go_ret;exact⟨by rw[HK.out];rfl,HB.out⟩
  intro e L M T Y a2 a4 R;have r:e∈V.toList:=by simpa using M
  have j:a.contains e.born=false:=by simpa using T
  clear M T;obtain⟨s,q,v,O,hk,hv⟩:=N.out e r;obtain⟨a8,G⟩:=HV.out.c a7.out r j;have Q:=ah G;have a3:(h++[e]).length<=126:=by have:=G.a.length_eq;rw[yC]at this;omega
  have u:Hid (mF S.c (aH (h++[e]))=k+if s=(S.c:Int) then 1 else 0):=by unfold Hid;rw[P.out];unfold mF aH;rw[y8,La,yC];congr 1;simp only[yN,Cx,O,List.filter_cons,List.filter_nil];by_cases g:s=(S.c:Int);simp[g];simp[g]
  have a6:Hid (mF S.c (aH (h++[e]))<=126):=yr (EW _ _) (by unfold aH;rw[yL];exact a3);clear G a3;rw[hk,hv]at R⊢;go_wp2_with fail;have I:Below w w L:=ia HB.out (yb _) a2;have y:Hid (Below w w (L.alloc (.cells #[J s,J q] 186))):=I.alloc I.size _;have H:Hid (cm (L.alloc (.cells #[J s,J q] 186)) t w.heap.size V D (a.push e.born)):=Y.c ((Below.refl _ _).alloc (yb _) _);have d0:=(af.d L wr.heap.size a4 186 #[J s,J q]).a 0 _ rfl;have c0:=a5.out _ y.out;have HM:Hid (eN (L.alloc (.cells #[J s,J q] 186)) t w.heap.size<eN wr t w.heap.size):=by rw[Hid,H.out.b,a0];exact iI r j
  simp only[yf,yd]at d0;clear Y a2 a4 R I hR a0 r j hk hv a1 N a5 O;generalize L.alloc (.cells #[J s,J q] 186)=w2 at y H d0 c0 HM⊢;have HT:Hid (∀n,eN (w2.drewN n) t w.heap.size=eN w2 t w.heap.size):=λn=>by have e:(w2.drewN n).heap=w2.heap:=ς;unfold eN;rw[e]
  have U:Hid (∀n,cm (w2.drewN n) t w.heap.size V D (a.push e.born)):=λn=>H.out.c (below_drewN (Below.refl _ _) n);by_cases g:s=(S.c:Int)
  .have l:Hid (k+1=mF S.c (aH (h++[e]))):=by rw[Hid,u.out,if_pos g]
   subst g;clear u;go_quiet (fail);go_wp2_with fail;exact⟨⟨k+1,by go_num,by rw[l.out];exact a6.out,_,_,_,U.out _,below_drewN y.out _,Q.out,l.out⟩,by rw[HT.out];exact HM.out⟩
  have l:Hid (k=mF S.c (aH (h++[e]))):=by rw[Hid,u.out,if_neg g];rfl
  have a9:(s==(S.c:Int))=false:=by rw[beq_eq_false_iff_ne];exact g
  clear u;go_quiet (fail);go_wp2_with fail;exact⟨⟨k,rfl,E,_,_,_,U.out _,below_drewN y.out _,Q.out,l.out⟩,by rw[HT.out];exact HM.out⟩
def qa(p:PP w F b S o)(A:Wf S)(t:ByteArray)(ht:t.size<=16):ϖ 136 #[pT b 0,.string t] w λe a=>ϱ e (J (S.Mf t))/\Below w w a:=by
 obtain⟨r,T,-,x⟩:=p.i A;have I:=ah (oD p);have H:Hid (∀a,Below w w a->ϖ 119 #[pT b 0] a λe l=>ϱ e (sT r S.n S.n)/\Below a a l/\l.heap=a.heap):=λa k=>np (p.c k) T;have j:Hid (∀a,Below w w a->ϖ 182 #[pT b 0] a λe l=>ϱ e (J ((S.o.filter λm=>m.a==(S.c:Int)).length:Nat))/\Below a a l):=λa k=>oe (p.c k) A;have i:Hid (∀a,Below w w a->ε a b 0 (J S.c)/\ε a b 2 (J S.r)/\ε a b 5 (.bool S.h)/\a.cell? (aT r S.c)=some (J (S.Ml.getD S.c 0))):=λa k=>by have P:=(p.c k).a;exact⟨P.a 0 _ rfl,P.a 2 _ rfl,P.a 5 _ rfl,(x.c k x.f).a S.c _ (ie (by rw[A.g.1];exact A.num))⟩
 have O:0<=S.c:=ω;have B:S.c<S.n:=by have:=A.num;omega
 have D:Hid (S.Mf t=if S.MC≠0 then S.MC else if S.h then 8 else if 20<=S.Ml.getD S.c 0 then 9 else if S.r<=(S.o.filter λm=>m.a==(S.c:Int)).length then 10 else 0):=by unfold Hid PS.Mf;rw[if_neg (show ¬16<t.size by omega)]
 have V:¬16<t.size:=ω;have Q:=(i.out w (Below.refl _ _)).2.2.1;clear p A T x;generalize S.Mf t=v at D⊢;by_cases L:S.MC=0
 .have d:Hid (v=if S.h then 8 else if 20<=S.Ml.getD S.c 0 then 9 else if S.r<=(S.o.filter λm=>m.a==(S.c:Int)).length then 10 else 0):=by rw[Hid,D.out,if_neg (by simp[L])]
  rw[L]at I;clear D L;generalize S.Ml.getD S.c 0=z at i d;generalize (S.o.filter λm=>m.a==(S.c:Int)).length=Z at j d;generalize S.r=W at i d;generalize S.c=N at i H j O B;generalize S.n=nn at H B;cases h:S.h with
  |true=>
   have u:Hid (v=8):=by rw[Hid,d.out,h];rfl
   rw[h]at Q;clear d i j H h;go_enter func136,ntmps136;go_wp21;refine I.out.mono ?_;rintro e U⟨rfl,rfl⟩;go_wp21;go_ret;exact⟨by rw[u.out];rfl,Below.refl _ _⟩
  |false=>
   have s:Hid (v=if 20<=z then 9 else if W<=Z then 10 else 0):=by rw[Hid,d.out,h];rfl
   rw[h]at Q i;clear d h;go_enter func136,ntmps136;go_wp21;refine I.out.mono ?_;rintro e U⟨rfl,rfl⟩;go_wp21;refine wp_region_held_drew (S:=λa=>ε a b 0 (J N)/\ε a r N (J z)) rfl (by have:=i.out _ (Below.refl _ _).drew;exact⟨this.1,this.2.2.2⟩) λc=>?_;refine wk 0 ?_;refine wk 2 ?_;refine wk 3 ?_;refine wk 4 ?_;refine wk 5 ?_;refine we 1 λK E=>?_;go_simp;refine(H.out _ (Below.refl _ _).drew).mono ?_;rintro e w3⟨rfl,C,-⟩;have g:=ah ((Below.refl _ _).drew.trans (C.mono (yb _)));clear C;refine E.out _ _ (by have:=i.out _ g.out;exact⟨this.1,this.2.2.2⟩) λc=>?_;clear E K;try simp only[pU]
   (iterate 4 refine ψ ?_)
   refine wpAnyH_done κ ?_ _;clear c;by_cases R:20<=z
   .have u:Hid (v=9):=by rw[Hid,s.out,if_pos R]
    clear s;go_wp21;go_ret;exact⟨by rw[u.out];rfl,g.out⟩
   have q:Hid (v=if W<=Z then 10 else 0):=by rw[Hid,s.out,if_neg R]
   clear s;go_wp21;refine wp_region_held_drew (S:=λa=>ε a b 2 (J W)) rfl (i.out _ g.out.drew).2.1 λc=>?_;refine wk 0 ?_;refine wk 2 ?_;refine wk 3 ?_;refine wk 4 ?_;refine wk 5 ?_;refine we 1 λK E=>?_;go_simp;refine(j.out _ g.out.drew).mono ?_;rintro e Y⟨rfl,G⟩;have y:=ah (g.out.trans ((Below.refl _ _).drew.trans (G.mono (yb _)) |>.mono g.out.size));clear G;refine E.out _ _ (i.out _ y.out).2.1 λc=>?_;clear E K;try simp only[pU]
   (iterate 2 refine ψ ?_)
   refine wpAnyH_done κ ?_ _;clear c;by_cases k:W<=Z
   .have u:Hid (v=10):=by rw[Hid,q.out,if_pos k]
    have M:(W:Int)<=(Z:Int):=ω;clear q;go_wp21;go_ret;exact⟨by rw[u.out];rfl,y.out⟩
   have u:Hid (v=0):=by rw[Hid,q.out,if_neg k]
   have M:¬(W:Int)<=(Z:Int):=ω;clear q;go_wp21;go_ret;exact⟨by rw[u.out];rfl,y.out⟩
 have u:Hid (v=S.MC):=by rw[Hid,D.out,if_pos L]
 clear D i j H;go_enter func136,ntmps136;go_wp21;refine I.out.mono ?_;rintro e U⟨rfl,rfl⟩;go_wp21;go_ret;exact⟨by rw[u.out];rfl,Below.refl _ _⟩
variable {m:Codec.Msg}{tv:Θ}
def F6(p:PP w F b S o)(r:Wf S)(A:MsgW S.n m)(y:∃l n c,tv=.slice l n c)(a:Int):ϖ 138 #[pT b 0,aU m tv,J a] w λe q=>ϱ e (.tuple #[])/\∃d,To w F b o q (S.Ms m a) {o with g:=d}:=by
 obtain⟨s,u,g⟩:=A.s;obtain⟨l,v,z,rfl⟩:=y;refine(pG p.e m l v z a s u g r.num (by have:=r.a7;omega)).m ?_;rintro q⟨j,d,k,t⟩;refine⟨rfl,d,p.step (j.e λx _ i=>i.elim .inl λi=>i.elim (λe=>.inr (.inr (.inl e))) λe=>.inr (.inr (.inr (.inl e)))) (λ_ h=>h) k (λ_ h=>.inl h) ?_ p.ms rfl rfl rfl⟩;have e:m.a.toNat=s:=by rw[g];rfl
 simp only[PS.Ms,PS.Ng,PS.Ml,e];exact t
def PP.a5(p:PP w F b S o)(j:∀x∈S.o,Md.eA m.a m.seq x=false)(e:aE w (o.R F b) tv m.c):∃k,(Instr.mapUpdate 156 (.map (some o.m)) (bQ m.a m.seq) (aU m tv)).run prog w=.ok () k/\∃t,To w F b o k {S with o:=S.o++[m]} t:=by
 have c:∀x∈o.l,gL m.a m.seq x.1=false:=λx a=>j x.1 (by rw[<-p.ms];exact Hq a);have i:eB w F 3 1 tv _ _:=⟨e.d,λg d=>(e.c g d).1⟩;obtain⟨s,q,r⟩:=p.e.a3 m tv c i λg d n=>(e.c g d).2 (.inl (.inr (.inr (.inl n))));exact⟨_,s,_,p.step (cW.f q λx a=>by injection a with a;subst a;exact .inr (.inl rfl)) (λ_ h=>.inl h) (λ_ h=>.inl h) (λ_ h=>.inl h) r (by rw[y8,p.ms];rfl) rfl rfl rfl⟩
def vz(b:Nat)(t:ByteArray)(v:Int)(j:¬v=0){Q:Ξ}(g:ϖ 136 #[pT b 0,.string t] w λe a=>ϱ e (J v)/\Q a):ϖ 97 #[pT b 0,.string t] w λe a=>ϱ e (J v)/\Q a:=by go_enter func97,ntmps97;go_wp21;refine(ah g).out.m ?_;rintro h c;have i:Hid (Q h):=c;go_wp21;go_ret;exact⟨rfl,i⟩
def vX{t:ByteArray}(h:S.Mf t=0):S.MC=0/\S.h=false/\S.Ml.getD S.c 0<20:=by
 unfold PS.Mf at h;by_cases a:S.MC=0
 .rw[if_neg (by simp[a])]at h;by_cases d:16<t.size;rw[if_pos d]at h;cases h;rw[if_neg d]at h;cases c:S.h;rw[c]at h;refine⟨a,rfl,?_⟩;by_cases e:20<=S.Ml.getD S.c 0;simp only[yH,if_false]at h;rw[if_pos e]at h;cases h;omega;rw[c]at h;cases h
 rw[if_pos a]at h;exact absurd h a
def E0{l:List Codec.Msg}(h:∀x∈l,Md.eA m.a m.seq x=false):PS.put l m=l++[m]:=by unfold PS.put;rw[if_neg];intro e;obtain⟨x,c,a⟩:=List.any_eq_true.1 e;rw[h x c]at a;cases a
def PP.j(p:PP w F b S o){a:Array Θ}(h:af w X 179 a):¬o.M b X:=p.a0 h (.inr (.inl rfl))
def FZ(p:PP w F b S o)(u:Wf S)(t:ByteArray)(ht:t.size<=16)(hs:S.e.length<=900000)(B:S.Mf t=0->∀x∈S.o,Md.eA (S.Ma t).a (S.Ma t).seq x=false):Do 97 #[pT b 0,.string t] (J (S.Mf t)) w F b o (S.cast t):=by
 by_cases N:S.Mf t=0
 .have B:=B N;obtain⟨-,-,a5⟩:=vX N;have V:=u.u t a5;have j:Wf (S.Ms (S.Ma t) 1):=(u.k u.num rfl rfl (by show S.Ml.getD S.c 0+1<=20;omega) 1).1;have P:S.cast t=S.L8.foldl (λT q=>T.MN q (S.Ma t)) (S.MV (S.Ma t)):=by unfold PS.cast;rw[if_pos N];rfl
  have a0:S.MV (S.Ma t)=({S.Ms (S.Ma t) 1 with o:=S.o++[S.Ma t]}:PS).M1:=by show ({S.Ms _ 1 with o:=PS.put _ _}:PS).M1=_;rw[show (S.Ms (S.Ma t) 1).o=S.o from rfl,E0 B]
  have a1:Wf ({S.Ms (S.Ma t) 1 with o:=S.o++[S.Ma t]}:PS):=⟨j.c,j.num,j.a,j.kn,λm hm=>by rcases yz.1 hm with hm|hm;exact u.ms m hm;rw[yu]at hm;subst hm;exact V,j.view,j.mem,j.sus,j.h,j.prom,j.vote,j.lead,j.left,j.t⟩
  have a6:Wf (S.MV (S.Ma t)):=by rw[a0];exact a1.j
  have E:S.L8.length<=6:=yr (gG _ S.n) u.c;have b5:(S.MV (S.Ma t)).e=S.e:=rfl;have a7:(S.MV (S.Ma t)).L8=S.L8:=rfl;rw[N,P];have c0:S.Ma t=⟨S.c,S.Ml.getD S.c 0+1,S.Ml.set S.c (S.Ml.getD S.c 0+1),t⟩:=rfl;have HN:∀w1,Below w w w1->ϖ 137 #[pT b 0,.string t] w1 λe r=>∃g a,ϱ e (aU (S.Ma t) (sT g S.n a))/\Below w w r/\eB r (λx=>w<=x) 3 1 (sT g S.n a) S.n (ints (S.Ma t).c):=λw1 A=>by refine(wD u.num u.c (p.c A).e (λq Z=>u.g.at Z) t ω).mono ?_;rintro e r⟨g,a,rfl,i,s⟩;exact⟨g,a,rfl,A.trans (s.mono A.size),i.d,λg' O=>yr A.size (i.c g' O)⟩
  generalize b7:S.Ma t=M at*;refine(rM b o.m S.n t M S.L8 E w (λ_=>False) (λw1=>Below w w w1)
   (λr g a=>Below w w r/\eB r (λx=>w<=x) 3 1 (sT g S.n a) S.n (ints M.c))
   (λX g a w4=>w<=X/\af w4 X 179 #[J M.a,J M.seq,sT g S.n a,.string M.b]/\∃y,To w F b o w4 (S.Ms M 1) {o with g:=y}/\aE w4 (({o with g:=y}:Pl).R F b) (sT g S.n a) M.c)
   (λX g a w6=>w<=X/\af w6 X 179 #[J M.a,J M.seq,sT g S.n a,.string M.b]/\∃z,To w F b o w6 {S.Ms M 1 with o:=S.o++[M]} z/\aE w6 (z.R F b) (sT g S.n a) M.c)
   (λX g a w7=>w<=X/\af w7 X 179 #[J M.a,J M.seq,sT g S.n a,.string M.b]/\∃z,To w F b o w7 (S.MV M) z/\aE w7 (z.R F b) (sT g S.n a) M.c)
   (λX g a ao k G=>w<=X/\af G X 179 #[J M.a,J M.seq,sT g S.n a,.string M.b]/\∃z,To w F b o G (aG (λT q=>T.MN q M) S.L8 (S.MV M) k) z/\aE G (z.R F b) (sT g S.n a) M.c/\∃vv,eB G (z.R F b) 3 1 vv S.L8.length (cz S.L8)/\∃c,vv=.slice ao S.L8.length c)
   (λw9=>∃z,To w F b o w9 (S.L8.foldl (λT q=>T.MN q M) (S.MV M)) z)
   ?_ ?_ ?_ ?_ ?_ ?_ ?_ ?_ ?_).mono ?_
  refine(qa p u t ht).m ?_;rintro w1 A;rw[N];exact .inr (.inr ⟨rfl,A⟩);exact HN
  .rintro r g a⟨s,i⟩;have a2:Below r r (r.alloc (.cells #[J M.a,J M.seq,sT g S.n a,.string M.b] 179)):=(Below.refl _ _).alloc (yb _) _;have A:=s.trans (a2.mono s.size);have d:=af.d r r rfl 179 #[J M.a,J M.seq,sT g S.n a,.string M.b];have p3:=p.c A;refine(F6 p3 u V ⟨_,_,_,rfl⟩ 1).m ?_;rintro w4⟨y,Q⟩;have b2:aE (r.alloc (.cells #[J M.a,J M.seq,sT g S.n a,.string M.b] 179)) (o.R F b) (sT g S.n a) M.c:=by rw[aE,V.t];exact⟨aj i.d λx hx=>a2.block x (i.k hx),λx hx=>p.g (i.c x hx)⟩
   exact⟨rfl,s.size,(Q.e.block _ d.f (p3.j d)).trans d,y,(p.d A).a Q,b2.f Q.d⟩
  rintro X g a w4⟨C,d,y,Q,b4⟩w5 W;have h5:=Q.a (Q.c.d W);have a3:=b4.f (Q.c.d W).d;have l:=d.c W d.f;obtain⟨w6,hu,o6,L⟩:=h5.c.a5 (m:=M) B a3;refine⟨h5.c.a.y 15,l,w6,hu,C,(L.e.block X l.f (h5.c.j l)).trans l,o6,h5.a L,a3.f L.d⟩;rintro X g a w6⟨C,d,o6,L,b1⟩;rw[a0];refine(rT L.c a1).m ?_;rintro w7⟨o7,D⟩;exact⟨rfl,C,(D.e.block X d.f (L.c.j d)).trans d,o7,L.a D,b1.f D.d⟩;rintro X g a w7⟨C,d,o7,D,b3⟩;have:=nm D.c a6;rw[a7]at this;refine this.mono ?_;rintro e G⟨v,rfl,H,U⟩;obtain⟨ao,c,b6⟩:=bG H;subst b6;exact⟨ao,c,rfl,C,d.c U d.f,o7,D.a (D.c.d U),b3.f (D.c.d U).d,_,wG (λx hx=>D.c.g hx) H,c,rfl⟩;rintro X g a ao k G⟨C,d,o8,h8,K,vv,i,c,rfl⟩;refine⟨d,λq Z=>?_⟩;obtain⟨b8,c',b0,Y⟩:=fN (w':=G) i.d λ_ _ _=>rfl;injection b0 with e1 _ _;subst e1;obtain⟨g',O,a9⟩:=Y k q Z;exact⟨g',O,a9⟩;rintro X g a ao k G q⟨C,d,o8,h8,K,vv,i,c,rfl⟩Z;have a4:Sends (S.MV M) (aG (λT q=>T.MN q M) S.L8 (S.MV M) k) k:=fa (λT q=>Md.ak T _) _ k;have b9:k<6:=yg (ym.1 Z).1 E;refine(nU h8.c (a4.d a6) (by have h1:=a4.b;have h2:=congrArg List.length b5;omega) q M (aX K.d)).m ?_;rintro w9⟨o9,I⟩;refine⟨rfl,C,(I.e.block X d.f (h8.c.j d)).trans d,o9,?_,K.f I.d,_,i.f I.d,c,rfl⟩;rw[jb Z];exact h8.a I;rintro X g a ao w9⟨C,d,o9,I,-⟩;rw[iH]at I;exact⟨o9,I⟩;rintro e w'(⟨-,h⟩|⟨rfl,h⟩);exact h.elim;exact⟨rfl,h⟩
 have hc:S.cast t=S:=by unfold PS.cast;rw[if_neg N]
 rw[hc];refine(vz b t (S.Mf t) N (Q:=λw'=>Below w w w') (qa p u t ht)).m ?_;rintro w' A;exact⟨rfl,o,p.d A⟩
end
section
open Go.RowKit
open Go.Pm (Perm)
open Go.Cr (fam)
open Md (PS Grp Wf GW)
variable {w w' w1 w2:Δ}{gb pb:Nat}{bl:Nat->Nat}{Fp:Nat->ϑ}{Fn:ϑ}{G G1 G2:Grp}{nv:Θ}{FG:ϑ}{i:Nat}{k j:Nat}{x:bC}
def GQ.h(g:GQ w gb pb bl Fp Fn G nv)(o:i<G.n){f:FuncId}(q:fam f=true)(l:fam.leaf f=false)(args:List Θ)(a:∀v∈args,∀d:Perm,v.pm d=v){v:Θ}(s:∀d:Perm,v.pm d=v){S':PS}(r:∀h b c m,PP h b c (G.b i) m->CH h->¬b 1->Do f (Value.pointer (some ⟨c,0,none⟩)::args).toArray v h b c m S'):ϖ f (Value.pointer (some ⟨bl i,0,none⟩)::args).toArray w λe p=>ϱ e v/\cW (Fp i) w p/\PK p (aY (Fp i) w) (bl i) S':=K2 q l args a s r (g.c i o) (g.q i o)
def GQ.m(g:GQ w gb pb bl Fp Fn G nv)(d:∀x,Wh gb pb G.n Fp Fn x->FG x)(e:i<G.n)(a:cW (Fp i) w w1){S:PS}(l:PK w1 (aY (Fp i) w) (bl i) S):GT w w1 FG gb (G.Nk i S):=by obtain⟨c,m,b⟩:=g.put e a l;exact⟨a.e λx _ h=>d x (.inr (.inr (.inr ⟨i,e,h⟩))),pb,bl,c,Fn,nv,m,λx f=>(b x f).imp (d x) id⟩
def GQ.v(g:GQ w gb pb bl Fp Fn G nv)(a:i<G.n)(b:Wf (G.b i)):(G.b i).o.length<=126:=by obtain⟨o,p⟩:=g.c i a;exact p.h.u b
def vM(g:GY w FG gb G):ϖ 41 #[pT gb 0] w λe a=>ϱ e (J G.a.length)/\a=w:=by obtain⟨d,f,c,m,l,g,-⟩:=g;go_enter func41,ntmps41;go_wp21;refine(ah (wC g.net)).out.m ?_;rintro h rfl;go_wp21;go_ret;simp
def Gf(m:GW G)(B:GY w FG gb G)(b:i<G.n):ϖ 40 #[pT gb 0,J i] w λe E=>ϱ e (J (G.b i).MC)/\GT w E FG gb (G.tick i):=by
 obtain⟨u,s,S,U,V,g,t⟩:=B;have o:=m.a i b;have h:=m.snt i b;have r:=g.v b o;have d:=Md.Bq o.c;unfold Md.cS at d;rw[h]at d;have A:Hid (ϖ 71 #[.pointer (some ⟨s i,0,none⟩)] w λe q=>ϱ e (J (G.b i).MC)/\(ε q gb 0 (sT u G.n G.n)/\ε q u i (.pointer (some ⟨s i,0,none⟩)))/\ϖ 62 #[pT gb 0,.pointer (some ⟨s i,0,none⟩)] q λe z=>ϱ e (.tuple #[])/\GT w z FG gb (G.tick i)):=by refine(g.h b rfl rfl [] ς ς λY T X N p F D=>AB p o F ν).m ?_;rintro q⟨c,K⟩;exact⟨rfl,⟨g.a0 b c,g.y b c⟩,g.f t b c K (by have D:=m.net;have W:=m.lim;grind)⟩
 have R:=g.c0;have M:=g.b b;have H:0<=i:=ω;have C:i<G.n:=ω;go_enter func40,ntmps40;go_wp21;refine(ah (mu i _ _ g.c0 b)).out.m ?_;rintro z rfl;go_wp21;refine A.out.m ?_;rintro P⟨⟨L,Q⟩,a⟩;go_wp21;refine(ah a).out.m ?_;rintro O v;go_wp21;go_ret;exact⟨rfl,(ah v)⟩
def Aj(m:GW G)(C:GY w FG gb G)(b:i<G.n)(t:ByteArray)(E:t.size<=16)(f:(G.b i).Mf t=0->∀x∈(G.b i).o,Md.eA ((G.b i).Ma t).a ((G.b i).Ma t).seq x=false):ϖ 56 #[pT gb 0,J i,.string t] w λe H=>ϱ e (J ((G.b i).Mf t))/\GT w H FG gb (G.cast i t):=by
 obtain⟨y,q,T,V,X,g,u⟩:=C;have r:=m.a i b;have h:=m.snt i b;have d:=Md.Bp r.c t;unfold Md.cS at d;rw[h]at d;have s:Hid (ϖ 97 #[.pointer (some ⟨q i,0,none⟩),.string t] w λe o=>ϱ e (J ((G.b i).Mf t))/\(ε o gb 0 (sT y G.n G.n)/\ε o y i (.pointer (some ⟨q i,0,none⟩)))/\ϖ 62 #[pT gb 0,.pointer (some ⟨q i,0,none⟩)] o λe B=>ϱ e (.tuple #[])/\GT w B FG gb (G.cast i t)):=by refine(g.h b rfl rfl _ ς ς λw0 U Z O p W F=>FZ p r t E ν f).m ?_;rintro o⟨c,L⟩;exact⟨rfl,⟨g.a0 b c,g.y b c⟩,g.f u b c L (by have F:=m.net;have Y:=m.lim;grind)⟩
 have S:=g.c0;have N:=g.b b;have I:0<=i:=ω;have D:i<G.n:=ω;generalize (G.b i).Mf t=v at s⊢;go_enter func56,ntmps56;go_wp21;refine(ah (mu i _ _ g.c0 b)).out.m ?_;rintro B rfl;go_wp21;refine s.out.m ?_;rintro Q⟨⟨M,R⟩,a⟩;go_wp21;refine(ah a).out.m ?_;rintro P z;go_wp21;go_ret;exact⟨rfl,(ah z)⟩
def pQ(c:GW G)(A:GY w FG gb G)(b:i<G.n){q:Nat}(m:q<G.n):ϖ 32 #[pT gb 0,J i,J q] w λe C=>ϱ e (J (if q=i then 5 else (G.b i).MC))/\GT w C FG gb (G.suspect i q):=by
 obtain⟨M,D,Q,S,U,g,o⟩:=A;have a:=c.num i b;have h:=yg m c.b;have d:=ah λj y=>mu j _ _ g.c0 y;have l:Hid (ϖ 65 #[.pointer (some ⟨D i,0,none⟩),J q] w λe s=>ϱ e (J (if q=i then 5 else (G.b i).MC))/\GT w s FG gb (G.suspect i q)):=by refine(g.h b rfl rfl _ ς ς λX R W K p T P=>wX p (c.a i b) h).m ?_;rintro s⟨f,H⟩;rw[a];exact⟨rfl,g.m o b f H⟩
 have O:=g.c0;have I:=g.b b;have E:0<=i:=ω;have B:i<G.n:=ω;generalize (if q=i then 5 else (G.b i).MC)=v at l⊢;go_enter func32,ntmps32;go_wp21;refine(d.out i (ah b)).m ?_;rintro V rfl;go_wp21;refine(d.out q (ah m)).m ?_;rintro N rfl;go_wp21;refine l.out.m ?_;rintro L t;go_wp21;go_ret;exact⟨rfl,(ah t)⟩
def Et(l:GY w FG gb G)(a:i<G.n):ϖ 39 #[pT gb 0,J i] w λe o=>ϱ e (J (if (G.b i).f then 6 else 0))/\GT w o FG gb (G.crash i):=by
 obtain⟨B,q,D,H,K,g,d⟩:=l;have c:Hid (ϖ 70 #[.pointer (some ⟨q i,0,none⟩)] w λe f=>ϱ e (J (if (G.b i).f then 6 else 0))/\GT w f FG gb (G.crash i)):=by refine(g.h a rfl rfl [] ς ς λN F M y p I E=>Ek p).m ?_;rintro f⟨b,u⟩;exact⟨rfl,g.m d a b u⟩
 have C:=g.c0;have z:=g.b a;have s:0<=i:=ω;have m:i<G.n:=ω;generalize (if (G.b i).f=true then (6:Int) else 0)=v at c⊢;go_enter func39,ntmps39;go_wp21;refine(ah (mu i _ _ g.c0 a)).out.m ?_;rintro L rfl;go_wp21;refine c.out.m ?_;rintro A h;go_wp21;go_ret;exact⟨rfl,(ah h)⟩
def GY.b(g:GQ w gb pb bl Fp Fn G nv)(e:∀x,Wh gb pb G.n Fp Fn x->FG x)(c:cW (λx=>Fn x\/x=gb) w w'){a:List bC}{b:Θ}(l:cY w' (aY Fn w) gb (sT pb G.n G.n) G.c a b):GT w w' FG gb {G with a:=a}:=by obtain⟨d,o,m⟩:=g.l c l;refine⟨c.e λx _ h=>e x ?_,pb,bl,Fp,d,b,o,λx f=>?_⟩;rcases h with h|h;exact .inr (.inr (.inl h));exact .inl h;exact(Wh.a m x f).imp (e x) id
def Gc(l:GY w FG gb G)(p:G.a.length<=1000000)(k:Nat)(x:bC)(n:G.a[k]?=some x):ϖ 80 #[pT gb 0,J k] w λe a=>ϱ e (J 0)/\GT w a FG gb (G.drop k):=by
 obtain⟨r,u,t,y,s,g,d⟩:=l;have f:Hid (Calls _ 73 _ w λe a=>ϱ e _/\GT w a FG gb _):=(qd g.net p k x n).mono λe a h=>⟨h.1,by obtain⟨-,b,q,m⟩:=h;exact GY.b g d b (m.d aY.c)⟩
 go_enter func80,ntmps80;go_wp21;refine f.out.m ?_;rintro v c;go_wp21;go_ret;exact⟨rfl,(ah c).out.b ((Below.refl _ _).alloc (yb _) _)⟩
def F5(a:G.a[k]?=some x):G.copy k={G with a:=je G.c G.a x}:=by unfold Grp.copy;rw[a];rfl
def Gb(m:GY w FG gb G)(p:G.a.length<=1000000)(k:Nat)(x:bC)(f:G.a[k]?=some x):ϖ 82 #[pT gb 0,J k] w λe a=>ϱ e (J 0)/\GT w a FG gb (G.copy k):=by
 obtain⟨r,u,t,y,s,g,d⟩:=m;have l:Hid (Calls _ 125 _ w λe a=>ϱ e _/\GT w a FG gb (G.copy k)):=(zr g.net p k x f).mono λe a h=>⟨h.1,by obtain⟨-,b,q,n⟩:=h;rw[F5 f];exact GY.b g d b n⟩
 go_enter func82,ntmps82;go_wp21;refine l.out.m ?_;rintro v c;go_wp21;go_ret;exact⟨rfl,(ah c)⟩
def x5(p:GY w FG gb G)(k:Nat)(x:bC)(r:G.a[k]?=some x)(i m:Nat)(q:i<x.2.size)(d:1<=m)(b:m<=255)(c:x.2.size<=1000000):ϖ 85 #[pT gb 0,J k,J i,J m] w λe a=>ϱ e (J 0)/\GT w a FG gb {G with a:=G.a.set k (x.1,cP x.2 i m)}:=by
 obtain⟨u,y,v,z,A,g,l⟩:=p;have o:Hid (Calls _ 127 _ w λe a=>ϱ e _/\GT w a FG gb _):=(qQ g.net k x r i m q d b c).mono λe a h=>⟨h.1,by obtain⟨-,f,s⟩:=h;exact GY.b g l (f.e λx _ h=>.inl h) (s.d aY.c)⟩
 go_enter func85,ntmps85;go_wp21;refine o.out.m ?_;rintro B n;go_wp21;go_ret;exact⟨rfl,(ah n)⟩
def Eu(b:GY w FG gb G)(k:Nat)(x:bC)(d:G.a[k]?=some x):ϖ 96 #[pT gb 0,J k] w λe c=>ϱ e (.tuple #[.string x.2,J 0])/\c=w:=by obtain⟨h,n,m,p,l,g,a⟩:=b;go_enter func96,ntmps96;go_wp21;refine(ah (wB g.net k x d)).out.m ?_;rintro o rfl;go_wp21;go_ret2;simp
def pH(a:G.a[k]?=some x)(b:x.1=(j:Int)):G.deliver k=((G.drop k).Nk j ((G.b j).Mn x.2.data.toList)).MB j:=by unfold Grp.deliver;rw[a];simp only[b,CM];rfl
def pP(r:GW G)(gx:GY w FG gb G)(k:Nat)(x:bC)(Q:G.a[k]?=some x)(V:x.1=(j:Int))(m:j<G.n)(D:x.2.size<=1000000):ϖ 42 #[pT gb 0,J k] w λe E=>ϱ e (J 0)/\GT w E FG gb (G.deliver k):=by
 obtain⟨s,u,y,Fn,nv,g,K⟩:=gx;obtain⟨x1,d⟩:=x;simp only at V D;subst V;have hl:G.a.length<=1000000:=by have h1:=r.net;have h2:=r.lim;omega
 have M:=r.a j m;have z:=r.snt j m;have t:=Md.nE M.c d.data.toList;unfold Md.cS at t;rw[z]at t;have T:Hid (ϖ 73 #[pT gb 1,J k] w λe E=>ϱ e (.tuple #[.agg #[J j,.string d],J 0])/\cW FG w E/\∃a b,GQ E gb s u y a (G.drop k) b/\∀x,Wh gb s G.n y a x->aY FG w x):=(qd g.net hl k _ Q).mono λe E h=>⟨h.1,by obtain⟨-,q,b,R⟩:=h;obtain⟨a,g',hF⟩:=g.l q (R.d aY.c);exact⟨(GY.b g K q (R.d aY.c)).1,a,b,g',λx hx=>(Wh.a hF x hx).imp (K x) id⟩⟩
 have L:Hid (∀F,(cW FG w F/\∃a b,GQ F gb s u y a (G.drop k) b/\∀x,Wh gb s G.n y a x->aY FG w x)->∀v,Below F F v->ε v gb 0 (sT s G.n G.n)/\ε v s j (.pointer (some ⟨u j,0,none⟩))/\ϖ 74 #[.pointer (some ⟨u j,0,none⟩),.string d] v λe c=>ϱ e (.tuple #[])/\ϖ 62 #[pT gb 0,.pointer (some ⟨u j,0,none⟩)] c λe P=>ϱ e (.tuple #[])/\GT w P FG gb (G.deliver k)):=λF⟨q,a,b,g1,H⟩v S=>by have C:=g1.o S;refine⟨C.c0,C.b m,?_⟩;refine(C.h (i:=j) m (f:=74) rfl rfl [.string d] ς (v:=.tuple #[]) ς (S':=(G.b j).Mn d.data.toList) λw0 F0 b0 o0 p hT h1=>rI (S:=G.b j) p M d.data.toList (by have:d.data.toList.length=d.size:=rfl;omega) ν).m ?_;rintro c⟨B,O⟩;refine⟨rfl,(C.f H (i:=j) m B O ?_).mono ?_⟩;have h1:(G.drop k).a.length<=G.a.length:=List.length_eraseIdx_le _ _;have h2:=r.net;have h3:=r.lim;grind;rintro e P⟨rfl,h⟩;rw[pH Q rfl];exact⟨rfl,GT.a (G1:=G.drop k) ⟨q.c (cW.d S),s,u,y,a,b,C,H⟩ h⟩
 generalize G.deliver k=Z at L⊢;go_enter func42,ntmps42;go_wp21;refine T.out.m ?_;rintro c A;have f:=L.out c A;have I:Hid (Below c c (c.alloc (.cells #[J j,.string d] 111))):=(Below.refl _ _).alloc (yb _) _;obtain⟨c0,p0,-⟩:=f _ I;have o:Hid _:=f;have a1:0<=j:=ω;have a0:j<G.n:=ω;have U:(c.alloc (.cells #[J j,.string d] 111)).cell? (aT c 0)=some (J j):=ς;have Y:(c.alloc (.cells #[J j,.string d] 111)).cell? (aT c 1)=some (.string d):=ς;go_wp21;generalize hX:c.heap.size=X at U Y I o⊢;generalize (c.alloc _)=v at U Y c0 p0 I⊢;go_quiet (fail);go_wp21;refine(o.out _ (below_drewN I _)).2.2.m ?_;rintro P l;go_wp21;refine(ah l).out.m ?_;rintro w4 A;go_wp21;go_ret;exact⟨rfl,(ah A)⟩
open Go.Cr (Tabs)
open Md (Book)
variable {n win lim:Nat}
def rS(k:GW G)(l:GY w FG gb G)(b:i<G.n):ϖ 35 #[pT gb 0,J i] w λe a=>∃v,ϱ e (.tuple #[v,J 0])/\a.ownsRow w 64 6 v (G.b i).j.length (az (G.b i).j)/\Below w w a:=by
 obtain⟨u,q,z,A,B,g,j⟩:=l;have c:Hid (ϖ 66 #[.pointer (some ⟨q i,0,none⟩)] w λe a=>∃d,ϱ e d/\a.ownsRow w 64 6 d (G.b i).j.length (az (G.b i).j)/\Below w w a):=by obtain⟨o,p⟩:=g.c i b;exact BW p.a (k.a i b).a7
 have y:=g.c0;have t:=g.b b;have r:0<=i:=ω;have m:i<G.n:=ω;go_enter func35,ntmps35;go_wp21;refine(ah (mu i _ _ g.c0 b)).out.m ?_;rintro C rfl;go_wp21;refine c.out.mono ?_;rintro e x⟨v,rfl,f⟩;have s:Hid _:=f;go_wp21;go_ret2;exact⟨v,rfl,s⟩
def IL{p:Nat}(a:n<=6):cZ p n win=zc (PS.Ni p n win) (sN) (sN) none:=by unfold cZ zc PS.Ni;rw[(vN n a).2];rfl
def IM{p b:Nat}{F:ϑ}(k:n<=6)(h:PX w F b (cZ p n win) (bB n).b (bB n).c (bB n).a []):PZ w F b (PS.Ni p n win):=by
 obtain⟨l,r,o,f,c,m,a,g,j,q⟩:=h;have d:l=[]:=by cases l with
  |nil=>rfl
  |cons x l=>cases r
 subst d;rw[IL k]at q;refine⟨⟨[],o,f,c,m,a,g,j,sN,none,sN,[],sN,[]⟩,q,rfl,λx e=>?_,⟨World.ownsRow_nil _ _ _ _,nofun⟩,trivial,⟨rfl,World.ownsRow_nil _ _ _ _,nofun⟩⟩;rcases e with h|⟨h,-⟩|h<;>cases h
def IK{a:ϑ}(k:n<=6)(g:GX w a gb n win lim (λ_=>bB n) []):GY w a gb (Grp.Nm n win lim):=by obtain⟨e,f,d,j,h,g,b⟩:=g;exact⟨e,f,d,j,h,⟨g.d,g.f,λi c=>IM k (g.e i c),g.dis,g.c,g.b,g.p,g.k,g.g,g.h,g.l,g.o⟩,b⟩
def GY.e(g:GY w FG gb G):GY w (λx=>FG x/\x<w) gb G:=by obtain⟨d,e,c,h,f,g,b⟩:=g;exact⟨d,e,c,h,f,g,λx a=>⟨b x a,(g.z a).2⟩⟩
def BZ(n win lim:Nat):Grp:=(Grp.Nm n win lim).cast 0 Md.mZ
def Aq(c:1<=n)(a:1<=win):(PS.Ni 0 n win).Mf Md.mZ=0:=by
 have b:(PS.Ni 0 n win).Ml.getD (PS.Ni 0 n win).c 0=0:=by
  match n,c with
  |_+1,_=>rfl
 unfold PS.Mf;rw[b];have:¬(PS.Ni 0 n win).r<=((PS.Ni 0 n win).o.filter λm=>m.a==((PS.Ni 0 n win).c:Int)).length:=by show ¬win<=0;omega
 rw[if_neg this];rfl
def DZ{S:PS}{t:ByteArray}(h:S.Mf t=0):(S.cast t).j=S.j++[⟨1,S.b,S.c,S.Ml.getD S.c 0+1,0,t⟩]:=by unfold PS.cast;rw[if_pos h];have:=Md.bK (λ(T:PS)q=>T.MN q (S.Ma t)) 1 (λT q=>Md.ak T _) (S.MV (S.Ma t)).L8 (S.MV (S.Ma t));rw[this.e];rfl
def Ew(b:1<=n)(a:1<=win):((BZ n win lim).b 0).j=[⟨1,0,0,1,0,Md.mZ⟩]:=by
 show ((PS.Ni 0 n win).cast _).j=_;rw[DZ (Aq b a)];show [(⟨1,0,0,(PS.Ni 0 n win).Ml.getD 0 0+1,0,_⟩:Ev)]=_;have c:(PS.Ni 0 n win).Ml.getD 0 0=0:=by
  match n,b with
  |_+1,_=>rfl
 rw[c];rfl
def II(a:n<=6)(c:lim<=4000):GW (Grp.Nm n win lim):=⟨a,λ_ b=>Md.DK a b,λ_ _=>rfl,λ_ _=>rfl,λ_ _=>rfl,c,oI _⟩
def CC(w:Δ)(pp gb n win lim:Nat)(cr:Book)(fair:Bool):Prop:=af w pp 44 #[pT gb 0,J n,J win,J lim,.bool (cr 0),.bool (cr 1),.bool (cr 2),.bool (cr 3),.bool (cr 4),.bool (cr 5),.bool fair]
def EX(w:Δ)(d:Bool)(hT:Tabs w)(I:7<=w.heap.size)(o:1<=n/\n<=6)(j:1<=win/\win<=8)(f:1<=lim/\lim<=4000):ϖ 25 #[.agg #[J n,J win,J lim],.bool d] w λe b=>∃M W,ϱ e (pT M 0)/\Below w w b/\CC b M W n win lim (λ_=>false) d/\w<=M/\GY b (λx=>w<=x/\x<M) W (BZ n win lim):=by
 have Y:Hid (∀b,Below w w b->ϖ 38 #[.agg #[J n,J win,J lim]] b λe a=>∃g,ϱ e (.tuple #[pT g 0,J 0])/\GY a (λx=>b<=x) g (Grp.Nm n win lim)/\Below b b a):=λb Q=>(Ge n win lim b ⟨o,j,f⟩ (bR hT λx N=>Q.block x ω) (yr I Q.size)).mono λe a h=>by obtain⟨g,S,h2,h3⟩:=h;exact⟨g,S,IK o.2 h2,h3⟩
 have Z:Hid (∀b g A,GY b A g (Grp.Nm n win lim)->ϖ 56 #[pT g 0,J 0,.string ⟨#[102,105,114,115,116]⟩] b λe a=>ϱ e (J 0)/\GT b a A g (BZ n win lim)):=λb g A z=>by have:=Aj (i:=0) (II (win:=win) o.2 f.2) z (by show 0<n;omega) Md.mZ θ λ_=>nofun;have e:((Grp.Nm n win lim).b 0).Mf Md.mZ=0:=Aq o.1 j.1;rw[e]at this;exact this
 have X:Hid (∀b g A,GY b A g (BZ n win lim)->ϖ 35 #[pT g 0,J 0] b λe a=>Below b b a/\∃t m,ϱ e (.tuple #[sT t 1 m,J 0])/\ε a t 0 (J 1)/\ε a t 3 (J 1)/\ε a t 5 (.string ⟨#[102,105,114,115,116]⟩)):=λb g A z=>by have gw:GW (BZ n win lim):=((Md.dY.start (fair:=d) (n:=n) (win:=win) (lim:=lim)).a o).b o.2 f.2;refine(rS gw z (i:=0) (by show 0<n;omega)).mono ?_;rintro e a⟨v,rfl,V,Q⟩;rw[Ew o.1 j.1]at V;obtain⟨t,m,rfl,c0,-,-,c3,-,U⟩:=jU V (k:=0) rfl;exact⟨Q,t,m,rfl,c0,c3,U⟩
 have D:Hid (af (w.alloc (.cells #[J n,J win,J lim] 23)) w 23 #[J n,J win,J lim]):=af.d w w rfl 23 _;have u:Hid (Below w w (w.alloc (.cells #[J n,J win,J lim] 23))):=(Below.refl _ _).alloc (yb _) _;have q:Hid ((w.alloc (.cells #[J n,J win,J lim] 23))=w.heap.size+1):=by simp[Hid]
 go_enter func25,ntmps25;have O:=D.out.z 0;have L:=D.out.z 1;have P:=D.out.z 2;go_wp21;generalize w.alloc _=w0 at D u q⊢;refine(Y.out w0 u).mono ?_;rintro _ w1⟨g,rfl,z,E⟩;have r:=ah E;go_wp21;refine(ah (Z.out w1 g _ (ah z.e))).out.m ?_;rintro w2 c;have B:=ah c.2;have K:=ah (r.out.trans ⟨c.1.os,c.1.tape,c.1.output,c.1.size,λk hk=>c.1.block k (yg hk r.out.size) λh=>ω⟩);go_wp21;refine(ah (X.out w2 g _ B)).out.mono ?_;rintro _ y⟨p,t,m,rfl,c0,c3,U⟩;have s:=ah (K.out.trans (p.mono K.out.size));have l:=D.out.c s (by rw[q.out];omega);have O:=l.z 0;have L:=l.z 1;have P:=l.z 2;go_wp21;go_ret;have a1:=s.out.size;have a0:=q.out;have H:Below y y (y.alloc (.cells #[pT g 0,J n,J win,J lim,.bool false,.bool false,.bool false,.bool false,.bool false,.bool false,.bool d] 44)):=(Below.refl _ _).alloc (yb _) _;refine⟨y,g,rfl,((u.out.trans (s.out.mono ω)).trans (H.mono ω)),af.d y y rfl 44 _,ω,((ah (B.out.a p)).out.e.a H).c λx N=>?_⟩;rcases N.1 with S|S;exact⟨ω,N.2⟩;have:=r.out.size;exact⟨ω,N.2⟩
variable {f:Codec.Frame}{s:ByteArray}
theorem wI(a:Codec.dg f=true):1<=(lF f).2.size/\(lF f).2.size<=1000000:=by
 have c:=nN a;have b:(lF f).2.size=(Codec.gT f).length+4:=by show (Codec.im f).toArray.size=_;simp only[yJ,Codec.im,yC,Codec.br]
 omega
def GP(b c:UInt8)(d:c≠0):b^^^c≠b:=λh=>by have a:=congrArg (λx=>b^^^x) h;simp only[<-UInt8.xor_assoc,UInt8.xor_self,UInt8.zero_xor]at a;grind
theorem GH{i m:Nat}(e:i<(lF f).2.size)(b:1<=m)(d:m<=255):Codec.bM (cP (lF f).2 i m).data.toList=false:=by
 have a:i<(Codec.im f).length:=by
  have:(lF f).2.size=(Codec.im f).length:=by show (Codec.im f).toArray.size=_;simp
  omega
 have c:(cP (lF f).2 i m).data.toList=(Codec.im f).set i ((Codec.im f).getD i 0^^^UInt8.ofNat m):=by simp[cP,lF]
 rw[c,List.set_eq_take_append_cons_drop,if_pos a];refine Codec.Ib f _ _ _ _ ?_ (GP _ _ λh=>?_)
 .simp_all
 have:=congrArg UInt8.toNat h;simp at this;omega
structure Hm(R:Grp->Prop):Prop where
 gw:∀{G},R G->GW G
 par:∀{G x}{k:Nat},R G->G.a[k]?=some x->∃f,Codec.dg f=true/\x=lF f/\∃j:Nat,j<G.n/\x.1=(j:Int)
 deliver:∀{G}(k:Nat),R G->R (G.deliver k)
 drop:∀{G}(k:Nat),R G->R (G.drop k)
 copy:∀{G}(k:Nat),R G->R (G.copy k)
def xW{a:Type}(x:a):∀(l:List a)(k:Nat),(l.set k x).eraseIdx k=l.eraseIdx k
 |[],k=>ς
 |_::l,0=>rfl
 |y::l,k+1=>ν
theorem E8(c:GW G){k j:Nat}{x:bC}(m:G.a[k]?=some x)(d:x.1=(j:Int))(a:j<G.n)(e:Codec.bM s.data.toList=false):({G with a:=G.a.set k (x.1,s)}:Grp).deliver k=G.drop k:=by
 have l:({G with a:=G.a.set k (x.1,s)}).a[k]?=some (x.1,s):=by show (G.a.set k _)[k]?=_;rw[LL (ym.1 m).1]
 rw[pH l d];have i:(({G with a:=G.a.set k (x.1,s)}).b j).Mn _=G.b j:=Md.Bt e;rw[i];have b:=c.snt j a;have h:({G.b j with e:=[]})=G.b j:=by rw[<-b]
 unfold Grp.MB Grp.Nk Grp.drop;simp only[if_true,b,h,xW,Cx];refine congrArg (λg=>({n:=G.n,d:=G.d,c:=G.c,b:=g,a:=G.a.eraseIdx k}:Grp)) ?_;grind
theorem xe(s:ByteArray):∀(n i:Nat)(r:List UInt8),s.size-i=n->(ByteArray.toList.loop s i r).length=n+r.length:=by
 intro n;induction n with
 |zero=>
  intro i r h;unfold ByteArray.toList.loop;grind
 |succ n a=>
  intro i r h;unfold ByteArray.toList.loop;grind
theorem ub(h:1<=s.size):s.toList.isEmpty=false:=by have a:s.toList.length=s.size+0:=xe s _ 0 [] ω;grind
def Ci{R:Grp->Prop}(H:Hm R){cr:Book}{a3:Bool}(pp:Nat)(a9:CC w pp gb n win lim cr a3)(d3:¬FG pp)(gx:GY w FG gb G)(A:R G)(O a b c:Int)(t:ByteArray)(ha:j7 a)(hb:j7 b)(hc:j7 c):ϖ 57 #[pT pp 0,.agg #[J O,J a,J b,J c,.string t]] w λe d=>ϱ e (.bool true)/\∃l,GT w d FG gb l/\R l:=by
 obtain⟨v,a2,b9,gc⟩:∃v:ϑ,(∀x,v x->FG x)/\(∀x,v x->x<w)/\GY w v gb G:=⟨_,λx h=>h.1,λx h=>h.2,gx.e⟩;have hX:af (w.alloc (.cells #[J O,J a,J b,J c,.string t] 51)) w 51 #[J O,J a,J b,J c,.string t]:=af.d w _ rfl 51 _;have S:Below w w (w.alloc (.cells #[J O,J a,J b,J c,.string t] 51)):=(Below.refl _ _).alloc (yb _) _;have c6:(w.alloc (.cells #[J O,J a,J b,J c,.string t] 51))=w.heap.size+1:=ς;have b3:=af.f a9;have P:=af.c a9 S b3;have a7:=gc.a S;generalize e5:w.alloc _=B at hX S c6 P a7;have p:Hid (GT B B v gb G/\R G):=⟨⟨cW.j _ _,a7.c aY.c⟩,A⟩;have C:Hid (∀d,cW v B d->ε d w 0 (J O)/\ε d w 1 (J a)/\ε d w 2 (J b)/\ε d w 3 (J c)/\ε d pp 0 (pT gb 0)):=λd h=>by have I:af d w 51 _:=(h.block _ ω λe=>ν).trans hX;have e2:CC d pp gb n win lim cr a3:=(h.block pp ω λe=>d3 (a2 _ e)).trans P;exact⟨I.y 0,I.y 1,I.y 2,I.y 3,af.a e2 0 _ rfl⟩
 have E:∀{G},R G->G.a.length<=4000:=λh=>yr (H.gw h).net (H.gw h).lim;have b1:Hid (∀d l,GT B d v gb l->ϖ 41 #[pT gb 0] d λe g=>ϱ e (J l.a.length)/\g=d):=λd l h=>vM h.2;have a8:Hid (∀d l(k:Nat)x,GT B d v gb l->R l->l.a[k]?=some x->ϖ 42 #[pT gb 0,J k] d λe g=>ϱ e (J 0)/\∃o,GT B g v gb o/\R o):=λd l k x h A N=>by obtain⟨f,hf,rfl,j,a0,hd⟩:=H.par A N;refine(pP (H.gw A) h.2 k _ N hd a0 (wI hf).2).m ?_;rintro g z;exact⟨rfl,_,h.a z,H.deliver k A⟩
 have b8:Hid (∀d l(k:Nat)x,GT B d v gb l->R l->l.a[k]?=some x->ϖ 80 #[pT gb 0,J k] d λe g=>ϱ e (J 0)/\∃o,GT B g v gb o/\R o):=λd l k x h A N=>by refine(Gc h.2 (yr (E A) ω) k x N).m ?_;rintro g z;exact⟨rfl,_,h.a z,H.drop k A⟩
 have c9:Hid (∀d l(k:Nat)x,GT B d v gb l->R l->l.a[k]?=some x->ϖ 82 #[pT gb 0,J k] d λe g=>ϱ e (J 0)/\∃o,GT B g v gb o/\R o):=λd l k x h A N=>by refine(Gb h.2 (yr (E A) ω) k x N).m ?_;rintro g z;exact⟨rfl,_,h.a z,H.copy k A⟩
 have c2:Hid (∀d l(k:Nat)x,GT B d v gb l->l.a[k]?=some x->ϖ 96 #[pT gb 0,J k] d λe g=>ϱ e (.tuple #[.string x.2,J 0])/\g=d):=λd l k x h N=>Eu h.2 k x N;have c5:Hid (∀d l(k i m:Nat)x,GT B d v gb l->R l->l.a[k]?=some x->i<x.2.size->1<=m->m<=255->ϖ 85 #[pT gb 0,J k,J i,J m] d λe g=>ϱ e (J 0)/\cW v B g/\ϖ 42 #[pT gb 0,J k] g λe M=>ϱ e (J 0)/\∃o,GT B M v gb o/\R o):=λd l k i m x h A N hi b0 Y=>by
  obtain⟨f,hf,rfl,j,a0,hd⟩:=H.par A N;have gw:=H.gw A;refine(x5 h.2 k _ N i m hi b0 Y (wI hf).2).m ?_;rintro g z;have h2:=h.a z;refine⟨rfl,h2.1,?_⟩;have e8:GW ({l with a:=l.a.set k ((lF f).1,cP (lF f).2 i m)}:Grp):=⟨gw.b,gw.a,gw.num,gw.n,gw.snt,gw.lim,by show (l.a.set k _).length<=_;rw[Ko];exact gw.net⟩;have f0:(cP (lF f).2 i m).size<=1000000:=by
   have h1:=(wI hf).2;have h2:(cP (lF f).2 i m).size=(lF f).2.size:=by show (cP (lF f).2 i m).data.size=(lF f).2.data.size;simp[cP]
   omega
  refine(pP e8 h2.2 k ((lF f).1,cP (lF f).2 i m) ν hd a0 f0).m ?_;rintro M a4;rw[E8 gw N hd a0 (GH hi b0 Y)]at a4;exact⟨rfl,_,h2.a a4,H.drop k A⟩
 have e9:Hid (∀l x(k:Nat),R l->l.a[k]?=some x->1<=x.2.size/\x.2.size<=1000000):=λl x k A L=>by obtain⟨f,hf,rfl,-⟩:=H.par A L;exact wI hf
 have r:Hid (∀d,(∃o,GT B d v gb o/\R o)->∃l,GT w d FG gb l/\R l):=λd⟨o,h,A⟩=>by refine⟨o,⟨(cW.d S).c (h.1.e λx _ L=>.inl (a2 x L)),h.2.c λx L=>?_⟩,A⟩;rcases L with L|L;exact .inl (a2 x L);exact .inr ω
 have b5:=ah (E A);have d1:=fO a;subst e5;obtain⟨e0,I,e2,e3,e4⟩:=C.out _ (cW.j _ _);go_enter func57,ntmps57;go_wp2_with fail;generalize f6:w.heap.size=X at C⊢;generalize w.alloc _=B at p C b1 a8 b8 c9 c2 c5 r⊢;refine(b1.out B G p.out.1).m ?_;rintro w2 rfl;obtain⟨e0,I,e2,e3,e4⟩:=C.out _ (cW.j _ _);generalize hm:G.a.length=m at b5⊢;have HM:=ah hm;by_cases f3:m=0
 .subst f3;go_wp2_with fail;go_ret;exact⟨rfl,r.out _ ⟨_,p⟩⟩
 have b0:¬m=0:=ω;have U:Hid (ϖ 34 _ _ _):=d1 m w2 ha ω (by have:=b5.out;omega);go_wp2_with fail;refine U.out.m ?_;rintro M rfl;have c7:bw a m<m:=cM a ω;obtain⟨x,L⟩:∃x,G.a[bw a m]?=some x:=⟨_,yh (by rw[HM.out];exact c7)⟩;generalize bw a m=k at c7 L⊢;have HX:=ah L;by_cases h5:O=5
 .subst h5;have D:Hid (ϖ 42 _ _ _):=a8.out M G k x p.out.1 p.out.2 HX;go_wp2_with fail;refine D.out.m ?_;rintro W V;have HR:Hid _:=r.out _ V;go_wp2_with fail;go_ret;exact⟨rfl,HR⟩
 by_cases h6:O=6
 .subst h6;have D:Hid (ϖ 80 _ _ _):=b8.out M G k x p.out.1 p.out.2 HX;go_wp2_with fail;refine D.out.m ?_;rintro W V;have HR:Hid _:=r.out _ V;go_wp2_with fail;go_ret;exact⟨rfl,HR⟩
 by_cases h7:O=7
 .subst h7;have D:Hid (ϖ 82 _ _ _):=c9.out M G k x p.out.1 p.out.2 HX;go_wp2_with fail;refine D.out.m ?_;rintro W V;have HR:Hid _:=r.out _ V;go_wp2_with fail;go_ret;exact⟨rfl,HR⟩
 by_cases h8:O=8
 .subst h8;obtain⟨x1,x2⟩:=x;have a1:=ah (e9.out G _ k p.out.2 HX);have D:Hid (ϖ 96 _ _ _):=c2.out M G k (x1,x2) p.out.1 HX;go_wp2_with fail;refine D.out.m ?_;rintro W rfl;have f7:=ub a1.out.1;go_upto_region 17 with fail;have a6:=cM b a1.out.1;have f2:bw c 255<255:=cM c ω;have c1:Hid (∀d,ϖ 34 #[J b,J x2.size] d λe g=>ϱ e (J (bw b x2.size))/\g=d):=λd=>(fO b) x2.size d hb a1.out.1 a1.out.2;have b6:Hid (∀d,ϖ 34 #[J c,J 255] d λe g=>ϱ e (J (bw c 255))/\g=d):=λd=>(fO c) 255 d hc ω ω;generalize bw b x2.size=pi at a6 c1;generalize bw c 255=pm at f2 b6;have f4:IntKind.i64.wrap (1+(pm:Int))=1+(pm:Int):=by rw[IntKind.wrap_i64];omega
  have c4:Hid (∀d,d=W.drew->ϖ 85 #[pT gb 0,J k,J pi,J (1+pm)] d λe g=>ϱ e (J 0)/\cW v W g/\ϖ 42 #[pT gb 0,J k] g λe M=>ϱ e (J 0)/\∃o,GT W M v gb o/\R o):=λd e=>by subst e;have h1:GT W W.drew v gb G:=⟨⟨rfl,rfl,rfl,yb _,λ_ _ _=>rfl⟩,p.out.1.2.a (Below.refl _ _).drew⟩;have:=c5.out W.drew G k pi (1+pm) (x1,x2) h1 p.out.2 HX a6 ω ω;rw[show ((1+pm:Nat):Int)=1+(pm:Int) by omega]at this;exact this
  have c0:Hid (∀d,cW v W d->ε d X 2 (J b)/\ε d X 3 (J c)/\ε d pp 0 (pT gb 0)):=λd h=>(C.out d h).2.2;refine wp_region_held_drew (S:=λd=>ε d X 2 (J b)/\ε d X 3 (J c)/\ε d pp 0 (pT gb 0)) rfl (c0.out _ ⟨rfl,rfl,rfl,yb _,λ_ _ _=>rfl⟩) λu=>?_;(iterate 9 refine ψ ?_);refine wk 10 ?_;refine wk 11 ?_;refine we 9 λK hK=>?_;go_simp;refine(c1.out _).m ?_;rintro w2 rfl;go_wp2_with fail;refine hK.out _ _ u λu=>?_;refine we 12 λK hK=>?_;go_simp;refine(b6.out _).m ?_;rintro w2 rfl;go_wp2_with fail;refine hK.out _ _ u λu=>?_;refine wk 13 ?_;refine we 14 λK hK=>?_;go_simp;refine(c4.out _ rfl).m ?_;rintro w5⟨a5,T⟩;have Q:Hid (ϖ 42 _ _ _):=T;have c3:Hid _:=(c0.out _ a5);go_wp2_with fail;refine hK.out _ _ c3 λu=>?_;refine wk 15 ?_;refine wpAnyH_done κ ?_ _;have e4:=c3.out.2.2;go_wp2_with fail;refine Q.out.m ?_;rintro w6 V;have HR:Hid _:=r.out _ V;go_wp2_with fail;go_ret;exact⟨rfl,HR⟩
 by_cases h9:O=9
 .subst h9;have U:Hid (∀d,ϖ 34 #[J a,J 60] d λe g=>ϱ e (J (bw a 60))/\g=d):=λd=>d1 60 d ha ω ω;have d2:bw a 60<60:=cM a ω;generalize bw a 60=q at U d2;go_wp2_with fail;go_loopw [5,7,10] (λnv ev i wr=>∃(j:Nat)(l:Grp)(m':Nat),j<=60/\i=J j/\nv=J m'/\l.a.length=m'/\ev=J 0/\GT M wr v gb l/\R l) λ_ _ i _=>100-(intOf i).toNat
  case atStart=>exact⟨0,G,m,ω,rfl,rfl,HM,rfl,p⟩
  case round=>
   obtain⟨j,l,m',A,rfl,rfl,c8,rfl,z,b2⟩:=hrel;have Z:Hid (GT M wr v gb l/\R l):=⟨z,b2⟩;obtain⟨e0,I,e2,e3,e4⟩:=C.out _ z.1;go_wp2_with fail;refine(U.out wr).m ?_;rintro w5 rfl;by_cases f5:j<=q
   .have d4:(j:Int)<=(q:Int):=ω;by_cases Y:0<m'
    .have d5:(0:Int)<(m':Int):=ω;obtain⟨y,hy⟩:∃y,l.a[0]?=some y:=⟨_,yh (by rw[(ah c8).out];exact Y)⟩;have D:Hid (ϖ 42 _ _ _):=a8.out w5 l 0 y Z.out.1 Z.out.2 hy;go_wp2_with fail;refine D.out.m ?_;rintro w6⟨G6,F,b4⟩;have d8:Hid (GT M w6 v gb G6/\R G6):=⟨F,b4⟩;have b7:Hid (ϖ 41 _ _ _):=b1.out w6 G6 F;obtain⟨e0,I,e2,e3,e4⟩:=C.out _ F.1;go_wp2_with fail;refine b7.out.m ?_;rintro w7 rfl;generalize d0:G6.a.length=m6;go_wp2_with fail;go_roundw
     case rel=>exact⟨j+1,G6,m6,ω,by go_num,rfl,(ah d0),rfl,d8⟩
     case measure=>simp[intOf];omega
    have d5:¬(0:Int)<(m':Int):=ω;go_wp2_with fail;go_ret;exact⟨rfl,r.out _ ⟨_,Z⟩⟩
   have d4:¬(j:Int)<=(q:Int):=ω;go_wp2_with fail;go_ret;exact⟨rfl,r.out _ ⟨_,Z⟩⟩
 go_wp2_with fail;go_ret;exact⟨rfl,r.out _ ⟨_,p⟩⟩
open Go.ChangeMaps (setBlock)
variable {F:ϑ}{b:Nat}{h:Hd}{kn:List (Υ)}{l:aL}{evs:List Ev}{snt:List bC}{kb mb:Nat}{rbs:List Nat}{es:Array MapEntry}{clk:Nat}{ev sv:Θ}
def F8{i n:Nat}{H N O:Bool}{L y t:Int}(e1:h.a=i)(T:h.n=n)(e3:h.i=H)(e4:h.out=N)(e5:h.h=O)(e6:h.d=L)(e7:h.b=y)(e8:h.g=t)(hi:i<n)(hn:n<=6)(p:PA w F b h kn l evs snt kb mb rbs es clk ev sv):ϖ 75 #[pT b 0] w λe a=>∃g f,ϱ e (.agg #[.bool (!H),.bool N,.bool O,J L,J y,J t,J l.length,sT g n f])/\a.ownsRow w.heap.size 3 1 (sT g n f) n (ints (kn.getD i []))/\Below w.heap.size w a:=by
 obtain⟨r,hr,I,E,-⟩:=p.m (by rw[T];exact hi);rw[T]at E;have C:=E;have HX:Hid (∀a,Below w.heap.size w a->ϖ 119 #[pT b 0] a λe B=>ϱ e (sT r n n)/\Below a.heap.size a B/\B.heap=a.heap):=λa hb=>by have:=iM (p.j hb) (by rw[e1];exact hr);rw[T]at this;exact this
 have a0:=ah (λa P=>by have:=tF r n (kn.getD i []) a (I.c P I.f) (by omega) (by omega);rw[C]at this;exact this)
 have s:Hid (∀a,Below w.heap.size w a->ε a b 3 (.bool H)/\ε a b 4 (.bool N)/\ε a b 5 (.bool O)/\ε a b 6 (J L)/\ε a b 7 (J y)/\ε a b 8 (J t)/\ε a b 15 (.map (some mb))/\a.heap[mb]?=some (.map es clk)):=λa P=>by have d:=(p.j P).a;rw[<-e3,<-e4,<-e5,<-e6,<-e7,<-e8];exact⟨d.a 3 _ rfl,d.a 4 _ rfl,d.a 5 _ rfl,d.a 6 _ rfl,d.a 7 _ rfl,d.a 8 _ rfl,d.a 15 _ rfl,(p.j P).map⟩
 have a1:=λa h=>by have:=run_len_map (P:=prog) a 156 3 mb es clk (by kernel_rfl) h;rw[p.o.a]at this;exact this
 go_enter func75,ntmps75;go_upto_region 1 with fail;refine gl.b (λa=>a.cell? _=some _/\a.cell? _=some _/\a.cell? _=some _/\a.cell? _=some _/\a.cell? _=some _/\a.cell? _=some _/\a.cell? _=some _/\a.heap[mb]?=some _) 34 (by kernel_rfl) (s.out _ (((yi _ _).alloc (yb _) _).drew)) λc=>?_;(iterate 31 refine χ ?_);refine te 31 λK m=>?_;go_simp;refine(HX.out _ (((yi _ _).alloc (yb _) _).drew)).mono ?_;rintro e w1⟨rfl,k,-⟩;have j:=(((yi _ w).alloc (yb _) _).drew).trans (k.mono (by simp));go_wp21;refine m.out _ _ (λ_=>s.out _ j) λ_=>?_;clear m K c;have c:=s.out _ j;try simp only[pU]
 refine te 32 λK m=>?_;go_simp;refine(a0.out _ j).mono ?_;rintro e w2⟨g,f,rfl,A,D⟩;have q:=j.trans (D.mono j.size);have U:Below (w.heap.size+1) _ w2:=(k.mono (by simp)).trans (D.mono (by have:=k.size;simpa using this));have M:=(af.d w w.heap.size rfl 71 #[.bool false,.bool false,.bool false,J 0,J 0,J 0,J 0,sN]).i.c U (by omega);go_wp21;refine m.out _ _ (λ_=>s.out _ q) λ_=>?_;clear m K c;have c:=s.out _ q;try simp only[pU]
 refine tw 33 ?_;obtain⟨X,V,Q,Z,Y,R,W,S,r0,r1,r2,r3,r4,r5,r6,r7⟩:=M.l;refine te 34 λK m=>?_;go_simp;refine m.out _ _ (λh=>absurd rfl h) λ_=>?_;clear m K;try simp only[pU]
 refine gl.done (by kernel_rfl) ?_ _;go_wp21;obtain⟨u,o⟩:=LG M (.bool (!H)) (.bool N) (.bool O) (J L) (J y) (J t) (J l.length) (sT g n f);clear X V Q Z Y R W S r0 r1 r2 r3 r4 r5 r6 r7;refine DU (p:=bodyPost _ _ _ _ _) _ λwf z=>?_;rw[<-z.out]at u o;clear z;obtain⟨X,V,Q,Z,Y,R,W,S,-⟩:=u.l;have v:=k.size;simp at v;refine bodyPost_ret (v:=.agg #[.bool (!H),.bool N,.bool O,J L,J y,J t,J l.length,sT g n f]) (by simp[results,results75,go_sem,X,V,Q,Z,Y,R,W,S]) rfl ⟨g,f,rfl,?_,?_⟩;exact aj (aD A (by omega)) λx hx=>o.block x (by have:=(A.lt x hx).1;omega);exact q.trans (o.c (yb _))
def FR(gw:GW G)(gx:GY w FG gb G){i:Nat}(hi:i<G.n):ϖ 43 #[pT gb 0,J i] w λe w'=>
 ∃gr cap,ϱ e (.tuple #[.agg #[.bool (!(G.b i).f),.bool (G.b i).out,.bool (G.b i).h,J (G.b i).b,J (G.b i).m,J (G.b i).k,J (G.b i).o.length,sT gr G.n cap],J 0])/\w'.ownsRow w.heap.size 3 1 (sT gr G.n cap) G.n (ints (G.b i).Ml)/\Below w.heap.size w w':=by
 obtain⟨pb,bl,Fp,Fn,nv,g,hW⟩:=gx;have hB0:Below w.heap.size w (w.alloc (.cells #[.bool false,.bool false,.bool false,J 0,J 0,J 0,J 0,sN] 71)):=(yi _ _).alloc (yb _) _;have g1:=g.o hB0;have hPr:=af.d w w.heap.size rfl 71 #[.bool false,.bool false,.bool false,J 0,J 0,J 0,J 0,sN];have HH:Hid (ϖ 64 _ _ _):=mu i _ _ g1.c0 hi;have HE:Hid (ϖ 75 #[.pointer (some ⟨bl i,0,none⟩)] (w.alloc (.cells #[.bool false,.bool false,.bool false,J 0,J 0,J 0,J 0,sN] 71)) λe w'=>∃g cap,ϱ e (.agg #[.bool (!(G.b i).f),.bool (G.b i).out,.bool (G.b i).h,J (G.b i).b,J (G.b i).m,J (G.b i).k,J (G.b i).o.length,sT g G.n cap])/\w'.ownsRow (w.alloc (.cells #[.bool false,.bool false,.bool false,J 0,J 0,J 0,J 0,sN] 71)).heap.size 3 1 (sT g G.n cap) G.n (ints (G.b i).Ml)/\Below (w.alloc (.cells #[.bool false,.bool false,.bool false,J 0,J 0,J 0,J 0,sN] 71)).heap.size (w.alloc (.cells #[.bool false,.bool false,.bool false,J 0,J 0,J 0,J 0,sN] 71)) w'):=by obtain⟨o,p⟩:=g1.c i hi;rw[show (G.b i).o.length=o.l.length by rw[<-p.ms,yL],show (G.b i).Ml=(G.b i).q.getD i [] by unfold PS.Ml;rw[gw.num i hi]];exact F8 (h:=o.q (G.b i)) (gw.num i hi) (gw.n i hi) rfl rfl rfl rfl rfl rfl hi gw.b p.a
 have c0:=g1.c0;have p0:=g1.b hi;have hk0:(0:Int)<=(i:Int):=by omega
 have hk1:(i:Int)<(G.n:Int):=by omega
 clear g hW g1 hB0;go_enter func43,ntmps43;go_wp21;refine HH.out.mono ?_;rintro e w2⟨rfl,rfl⟩;go_wp21;refine HE.out.mono ?_;rintro e w2⟨gr,cap,rfl,hov,hbv⟩;have hPr2:=hPr.c hbv (by simp);obtain⟨p0,p1,p2,p3,p4,p5,p6,p7,r0,r1,r2,r3,r4,r5,r6,r7⟩:=hPr2.l;clear HH HE c0;go_wp21;obtain⟨hPf,hOn⟩:=LG hPr2 (.bool (!(G.b i).f)) (.bool (G.b i).out) (.bool (G.b i).h) (J (G.b i).b) (J (G.b i).m) (J (G.b i).k) (J (G.b i).o.length) (sT gr G.n cap);clear p0 p1 p2 p3 p4 p5 p6 p7 r0 r1 r2 r3 r4 r5 r6 r7;refine DU (p:=bodyPost _ _ _ _ _) _ λwf hwf=>?_;rw[<-hwf.out]at hPf hOn;clear hwf;obtain⟨p0,p1,p2,p3,p4,p5,p6,p7,-⟩:=hPf.l;refine bodyPost_ret (v:=.tuple #[.agg #[.bool (!(G.b i).f),.bool (G.b i).out,.bool (G.b i).h,J (G.b i).b,J (G.b i).m,J (G.b i).k,J (G.b i).o.length,sT gr G.n cap],J 0]) (by simp[results,results43,go_sem,p0,p1,p2,p3,p4,p5,p6,p7]) rfl ⟨gr,cap,rfl,?_,?_⟩;exact aj (aD hov (by simp)) λx hx=>hOn.block x (by have:=(hov.lt x hx).1;simp at this;omega);exact(((yi _ _).alloc (yb _) _).trans (hbv.mono (by simp))).trans (hOn.c (yb _))
end
end Go.Proofs.Y
section
namespace Go.Proofs.Y
namespace Md
def chgK:Nat->Grp
 |0=>(((Grp.Nm 3 4 100).crash 2).suspect 0 2).tick 0
 |k+1=>(chgK k).deliver 0
def FQ:((chgK 8).b 0).b=1/\((chgK 8).b 1).b=1/\((chgK 8).b 0).m=3/\((chgK 8).b 1).m=3:=θ
def Dx:((Grp.Nm 3 4 100).b 2).f=false/\(((Grp.Nm 3 4 100).crash 2).b 0).MC=0/\((((Grp.Nm 3 4 100).crash 2).suspect 0 2).b 0).MC=0:=θ
def BV:∀k,(chgK k).n=3/\(chgK k).c=100
 |0=>⟨rfl,rfl⟩
 |k+1=>by have:=BV k;unfold chgK Grp.deliver;split;exact this;exact this
def Bn:∀k,∃C,CG C (chgK k)
 |0=>by exact⟨_,(((Ii (win:=4) (lim:=100) (n:=3) θ).crash (q:=2) θ).suspect (q:=0) (r:=2) θ θ).tick θ⟩
 |k+1=>(Bn k).imp λ_ h=>h.deliver 0
def CG.gw{C:List (Int×Codec.Msg)}{G:Grp}(c:CG C G)(e:G.n<=6)(d:G.c<=4000)(b:G.a.length<=G.c):GW G:=⟨e,λi a=>(c.st i a).1.a,λi a=>(c.st i a).1.num,λi a=>(c.st i a).1.n,λi a=>(c.st i a).2,d,b⟩
def xF:∀k,k<9->(chgK k).a.length<=3/\((chgK k).a.length=0↔k=8):=θ
def DL{k:Nat}(d:k<=8):GW (chgK k):=by obtain⟨C,a⟩:=Bn k;have c:=BV k;have b:=(xF k ω).1;exact a.gw ω ω ω
end Md
end Go.Proofs.Y
end
namespace Go.Proofs.Y
section
open Go.RowKit
open Md (PS Grp GW chgK)
open Go.Cr (Tabs)
variable {w wr w':Δ}{g:Nat}{G:Grp}{FG:ϑ}
def GZ(w wr:Δ)(g:Nat)(G:Grp):Prop:=∃FG,(∀x,FG x->w.heap.size<=x)/\GY wr FG g G/\Below w.heap.size w wr
def GZ.b(b:∀x,FG x->w.heap.size<=x)(a:Below w.heap.size w wr)(h:GT wr w' FG g G):GZ w w' g G:=
 ⟨_,λx c=>c.elim (b x) λh=>yr a.size h,h.2,a.trans ⟨h.1.os,h.1.tape,h.1.output,h.1.size,λk d=>h.1.block k (yg d a.size) λh=>by have:=b k h;omega⟩⟩
def GZ.a(z:GZ w wr g G)(b:Below wr.heap.size wr w'):GZ w w' g G:=by obtain⟨e,d,c,a⟩:=z;exact⟨e,d,c.a b,a.trans (b.mono a.size)⟩
def BC(w:Δ)(hT:Tabs w)(M:7<=w.heap.size):ϖ 18 #[] w λe w'=>ϱ e (.bool true)/\Below w.heap.size w w':=by
 have HN:Hid (ϖ 38 #[.agg #[J 3,J 4,J 100]] w λe w'=>∃g,ϱ e (.tuple #[pT g 0,J 0])/\GZ w w' g (Grp.Nm 3 4 100)):=(Ge 3 4 100 w (by decide) hT M).mono λe w' h=>by obtain⟨g,y,h2,Q⟩:=h;exact⟨g,y,_,λx X=>X,IK (by decide) h2,Q⟩
 obtain⟨a1,a2,a3⟩:=Md.Dx;have H1:Hid (∀wr g,GZ w wr g (Grp.Nm 3 4 100)->ϖ 39 #[pT g 0,J 2] wr λe w'=>ϱ e (J 0)/\GZ w w' g ((Grp.Nm 3 4 100).crash 2)):=λwr g⟨B,p,o,r⟩=>(Et o (i:=2) (by decide)).mono λe w' h=>⟨by rw[h.1,a1];rfl,.b p r h.2⟩;have v:=(Md.Ii (win:=4) (lim:=100) (n:=3) (by decide)).crash (q:=2) (by decide);have K:=v.suspect (q:=0) (r:=2) (by decide) (by decide);have H2:Hid (∀wr g,GZ w wr g ((Grp.Nm 3 4 100).crash 2)->ϖ 32 #[pT g 0,J 0,J 2] wr λe w'=>ϱ e (J 0)/\GZ w w' g (((Grp.Nm 3 4 100).crash 2).suspect 0 2)):=λwr g⟨B,p,o,r⟩=>(pQ (v.gw (by decide) (by decide) (by decide)) o (i:=0) (q:=2) (by decide) (by decide)).mono λe w' h=>⟨by rw[h.1,a2];rfl,.b p r h.2⟩;have H3:Hid (∀wr g,GZ w wr g (((Grp.Nm 3 4 100).crash 2).suspect 0 2)->ϖ 40 #[pT g 0,J 0] wr λe w'=>ϱ e (J 0)/\GZ w w' g (chgK 0)):=λwr g⟨B,p,o,r⟩=>(Gf (K.gw (by decide) (by decide) (by decide)) o (i:=0) (by decide)).mono λe w' h=>⟨by rw[h.1,a3],.b p r h.2⟩;have HF:Hid (∀k wr g,GZ w wr g (chgK k)->ϖ 41 #[pT g 0] wr λe w'=>ϱ e (J (chgK k).a.length)/\w'=wr):=λk wr g⟨B,p,o,r⟩=>vM o;have V:Hid (∀k wr g,k<8->GZ w wr g (chgK k)->ϖ 42 #[pT g 0,J 0] wr λe w'=>ϱ e (J 0)/\GZ w w' g (chgK (k+1))):=λk wr g hk⟨B,p,o,r⟩=>by
  have hl:=Md.xF k (by omega);have h0:0<(chgK k).a.length:=by
   have:(chgK k).a.length≠0:=λe=>by have:=hl.2.1 e;omega
   omega
  obtain⟨C,hC⟩:=Md.Bn k;have X:(chgK k).a[0]?=some (chgK k).a[0]:=yh h0;obtain⟨f,p1,p2,⟨q,p3,p4⟩,-⟩:=hC.net _ (AF h0);refine(pP (Md.DL (by omega)) o 0 _ X (j:=q) (by rw[p2];exact p4) p3 (by rw[p2];exact(wI p1).2)).mono λe w' h=>⟨h.1,.b p r h.2⟩
 have S:Hid (∀(i:Nat)wr g,i<2->GZ w wr g (chgK 8)->ϖ 43 #[pT g 0,J i] wr λe w'=>∃(N P R:Bool)(s l:Int)(t d:Nat),ϱ e (.tuple #[.agg #[.bool N,.bool P,.bool R,J 1,J 3,J s,J l,sT t 3 d],J 0])/\Below wr.heap.size wr w'):=λi wr g hi⟨B,p,o,r⟩=>by
  refine(FR (Md.DL (by omega)) o (i:=i) (by rw[(Md.BV 8).1];omega)).mono λe w' h=>?_;obtain⟨t,d,y,-,Q⟩:=h;obtain⟨e1,e2,e3,e4⟩:=Md.FQ;rw[(Md.BV 8).1]at y;match i,hi with
  |0,_=>rw[e1,e3]at y;exact⟨_,_,_,_,_,t,d,y,Q⟩
  |1,_=>rw[e2,e4]at y;exact⟨_,_,_,_,_,t,d,y,Q⟩
 have HL:=ah Md.xF;clear hT M a1 a2 a3 v K;go_enter func18,ntmps18;go_wp2_with fail;refine HN.out.mono ?_;rintro _ w1⟨g,rfl,c⟩;have j:=ah c;clear c HN;go_wp2_with fail;refine(H1.out w1 g j.out).mono ?_;rintro _ w2⟨rfl,c⟩;replace j:=ah c;clear c H1;go_wp2_with fail;refine(H2.out w2 g j.out).mono ?_;rintro _ w3⟨rfl,c⟩;replace j:=ah c;clear c H2;go_wp2_with fail;refine(H3.out w3 g j.out).mono ?_;rintro _ w4⟨rfl,c⟩;replace j:=ah c;clear c H3;go_wp2_with fail;go_loopw [6] (λi wr=>∃k:Nat,k<=8/\i=J k/\GZ w wr g (chgK k)) λi _=>8-(intOf i).toNat
 case atStart=>exact⟨0,by omega,rfl,j.out⟩
 case round=>
  obtain⟨k,hk,rfl,c⟩:=hrel;replace j:=ah c;have a5:k<100:=by omega
  have I:=ah (HF.out k wr g j.out);have hl:=HL.out k (by omega);by_cases h8:k=8
  .subst h8;have h0:(chgK 8).a.length=0:=hl.2.2 rfl;rw[h0]at I;have F:=ah (S.out 0 wr g (by omega) j.out);clear HF HL hl h0 V c;go_wp2_with fail;refine I.out.mono ?_;rintro _ w5⟨rfl,rfl⟩;clear I;go_wp2_with fail;refine F.out.mono ?_;rintro _ E⟨N,P,R,s,l,t,d,rfl,Z⟩;have XN:=af.d E E.heap.size rfl 71 #[.bool N,.bool P,.bool R,J 1,J 3,J s,J l,sT t 3 d];have Y:=ah XN;have L:=ah (j.out.a (Z.trans ((Below.refl E.heap.size E).alloc (yb _) (.cells #[.bool N,.bool P,.bool R,J 1,J 3,J s,J l,sT t 3 d] 71) |>.mono Z.size)));have H:=ah (S.out 1 _ g (by omega) L.out);clear XN Z j S F;go_wp2_with fail;refine H.out.mono ?_;rintro _ O⟨c1,c2,c3,s',T,u,m,rfl,n⟩;have a6:=ah n;have a0:=ah (L.out.a (n.trans ((Below.refl O.heap.size O).alloc (yb _) (.cells #[.bool c1,.bool c2,.bool c3,J 1,J 3,J s',J T,sT u 3 m] 71) |>.mono n.size)));have U:=(Y.out.c n Y.out.f).g (.cells #[.bool c1,.bool c2,.bool c3,J 1,J 3,J s',J T,sT u 3 m] 71);have W:=af.d O O.heap.size rfl 71 #[.bool c1,.bool c2,.bool c3,J 1,J 3,J s',J T,sT u 3 m];have y3:=U.a 3 _ rfl;have y4:=U.a 4 _ rfl;have z3:=W.a 3 _ rfl;have z4:=W.a 4 _ rfl;simp only[yf,yd,ye]at y3 y4 z3 z4;clear U W n H Y;go_wp2_with fail;go_ret;exact⟨rfl,a0.out.elim λB h=>h.2.2⟩
  have a7:(chgK k).a.length≠0:=λe=>h8 (hl.2.1 e);have h0:(0:Int)<((chgK k).a.length:Int):=by omega
  have D:=ah (V.out k wr g (by omega) j.out);clear HF HL hl V S c;go_wp2_with fail;refine I.out.mono ?_;rintro _ w5⟨rfl,rfl⟩;clear I;go_wp2_with fail;refine D.out.mono ?_;rintro _ E⟨rfl,c⟩;have a4:=ah c;clear c D;go_wp2_with fail;go_roundw
  case rel=>exact⟨k+1,by omega,by go_num,a4.out⟩
  case measure=>simp[intOf];omega
end
section
open Go.RowKit
open Go.ChangeMaps (setBlock)
open Md (PS Grp Wf GW Book)
variable {w w':Δ}{gb n win lim:Nat}{ls:Nat->List Ev}{GR:Grp}{FG:ϑ}
def EG:(prog.info? 37).map (λi=>(i.zero,i.size,i.bytes))=some (some (.agg #[sN]),1,24):=κ
structure jN(w:Δ)(base:Nat)(ls:Nat->List Ev)(v:Θ)(vs:List Θ):Prop where
 b:w.ownsRow base 37 1 v vs.length vs
 a:∀(i:Nat)u,vs[i]?=some u->w.ownsRow base 64 6 u (ls i).length (az (ls i))
def jN.c{a:Nat}{v:Θ}{e:List Θ}(t:jN w a ls v e)(c:Below w w w'):jN w' a ls v e:=⟨aj t.b λg b=>c.block g (t.b.lt g b).2,λi u d=>aj (t.a i u d) λg b=>c.block g ((t.a i u d).lt g b).2⟩
def GB{c b m D s C:Nat}{e t:TypeId}{v q:Θ}{x o:List Θ}(h:w.ownsRow c e s v m x)(z:w.ownsRow b t C q D o)(j:e≠t){g:Nat}(i:v.ownBlock=some g):some g≠q.ownBlock:=by
 intro f;rcases h.2 with ⟨l,-⟩|⟨E,A,F,l,-,d,-⟩;rw[l]at i;cases i;rcases z.2 with ⟨k,-⟩|⟨y,p,r,k,-,a,-⟩;rw[k]at f;cases f;rw[l]at i;rw[k]at f;have B:E=g:=by simpa[Value.ownBlock]using i
 have u:g=y:=by simpa[Value.ownBlock]using f
 subst B;subst u;rw[d]at a;simp at a;exact j a.2
def GI(T:Nat){cr:Book}{I:Bool}(j:CC w T gb n win lim cr I)(g:GY w FG gb GR)(gw:GW GR)(hn:GR.n=n)(a6:n<=6):ϖ 15 #[pT T 0] w λe d=>Below w w d/\∃v,ϱ e (.tuple #[v,.bool true])/\∃s:List Θ,s.length=n/\jN d w.heap.size (λi=>(GR.b i).j) v s:=by
 obtain⟨i0,a5,Z,a2,Y⟩:=info_parts EG;have HC:Hid (∀d,Below w w d->ε d T 0 (pT gb 0)/\ε d T 1 (J n)):=λd U=>⟨(af.c j U (af.f j)).a 0 _ rfl,(af.c j U (af.f j)).a 1 _ rfl⟩;have HE:Hid (∀(k:Nat)d,k<n->Below w w d->ϖ 35 #[pT gb 0,J k] d λe K=>∃v,ϱ e (.tuple #[v,J 0])/\K.ownsRow d 64 6 v ((GR.b k).j).length (az ((GR.b k).j))/\Below d d K):=λk d hk U=>rS gw (g.a U) (by rw[hn];exact hk);have H0:Hid (jN w w.heap.size (λi=>(GR.b i).j) (sN) []):=⟨World.ownsRow_nil _ _ _ _,λi u r=>absurd r ς⟩;clear j g gw hn;go_enter func15,ntmps15;go_wp2_with fail;go_loopw [4,5] (λo i wr=>∃(k:Nat)(s:List Θ),k<=n/\i=J k/\s.length=k/\Below _ w wr/\jN wr _ (λi=>(GR.b i).j) o s) λ_ i _=>n-(intOf i).toNat
 case atStart=>exact⟨0,[],ω,rfl,rfl,Below.refl _ _,H0.out⟩
 case round=>
  obtain⟨k,s,hk,rfl,a4,p,V⟩:=hrel;subst a4;obtain⟨ao,vc,rfl⟩:=bG V.b;generalize H:s.length=k at V hk⊢;have b:=ah H;clear H;have y:=ah p;have HT:=ah V;obtain⟨c0,c1⟩:=HC.out wr p;clear p V;by_cases X:k<n
  .have N:k<n:=ω;have L:=ah (HE.out k wr X y.out);go_wp2_with fail;refine L.out.mono ?_;rintro _ q⟨v,rfl,l,B⟩;have Q:=ah l;have P:=ah B;obtain⟨t,a,R⟩:=bG l;have a1:=ah (HT.out.c B);clear l B L c0 c1;generalize hm:((GR.b k).j).length=m at R Q;have HM:=ah hm;clear hm;subst R;have HX:Hid (af (q.alloc (.cells #[.slice t m a] 37)) q.heap.size 37 #[.slice t m a]):=af.d q q.heap.size rfl 37 _;have HB2:Hid (Below q q (q.alloc (.cells #[.slice t m a] 37))):=(Below.refl _ _).alloc (yb _) _;have M:=ah (a1.out.c HB2.out);have f:Hid (w.heap.size<=wr/\wr.heap.size<=q):=⟨y.out.size,P.out.size⟩;have D:=M.out.b;rw[b.out]at D;have A:=ah D;clear D;go_wp2_with (at_builtin;refine wpList_append_own_at _ rfl _ _ 31 rfl w.heap.size 37 i0 (.agg #[sN]) 1 24 underlying31 a5 Z a2 Y rfl θ _ _ _ rfl A.out ⟨q.heap.size,0,none⟩ 1 1 [.slice t m a] rfl ?c0 ?c1 ?c2 ?c3 ?c4 ?c5 ?_)
   case c0=>rfl
   case c1=>exact World.news_of_block HX.out
   case c2=>intro u r;simp only[yu]at r;subst r;rfl
   case c3=>unfold maxLen;omega
   case c4=>omega
   case c5=>have:=f.out;simp;omega
   intro v W ho C _ _;have hA:=Q.out;have G:(q.alloc (.cells #[.slice t m a] 37)).ownsRow w 64 6 (.slice t m a) m (az ((GR.b k).j)):=aj (aD hA f.out.1) λx O=>HB2.out.block x (hA.lt x O).2;have c:∀{mm:Nat}{u:Θ}{xs:List Θ},(q.alloc (.cells #[.slice t m a] 37)).ownsRow w 64 6 u mm xs->W.ownsRow w 64 6 u mm xs:=λh=>aj h λx O=>C.block x (h.lt x O).2 (GB h A.out θ O);have z:Below w w W:=((y.out.trans (P.out.mono f.out.1)).trans (HB2.out.mono (yr f.out.1 f.out.2))).trans ⟨C.os,C.tape,C.output,C.size,λx O=>C.block x (by have:=f.out;simp;omega) λe=>by have:=(A.out.lt x e.symm).1;omega⟩;have S:Hid (Below w w W/\jN W w.heap.size (λi=>(GR.b i).j) v (s++[.slice t m a])):=by
    refine⟨z,?_,λi u r=>?_⟩;rw[yC,b.out];exact ho;rcases Fs i k with h|h;rw[y7 (by rw[b.out];exact h)]at r;exact c (M.out.a i u r);rw[Fl (by rw[b.out];exact h)]at r;have a3:i=k:=by have:=(ym.1 r).1;rw[b.out]at this;simp at this;omega
    subst a3;rw[b.out,Nat.sub_self]at r;obtain rfl:Value.slice t m a=u:=by simpa using r
    rw[HM.out];exact c G
   clear hA G c z ho C;go_wp2_with fail;go_roundw
   case rel=>exact⟨k+1,s++[.slice t m a],ω,by go_num,by rw[yC,b.out];rfl,S.out⟩
   case measure=>simp[intOf];omega
  have a0:k=n:=ω;have N:¬(k:Int)<(n:Int):=ω;go_wp2_with fail;go_ret2;exact⟨y.out,_,rfl,s,by have:=b.out;omega,by have:=HT.out;rwa [a0]at this⟩
end
end Go.Proofs.Y
namespace Go.Cr
section
open Go Go.Conc
open Go.Pm (Rely Guar Ev grow)
variable {O O' K K':ϑ}{w:Δ}
def Rely.dZ{A:Ξ}{a:Δ}(d:∀b,O b->O' b)(e:∀b,K b->K' b)(h:Rely O' K' A w a):Rely O K A w a:=⟨λb c=>h.a b (c.imp (d b) (e b)),h.size,h.f,h.d⟩
def Ev.more(d:∀b,O b->O' b)(i:∀b,K b->K' b){e:Event}(h:Ev O K e):Ev O' K' e:=by
 obtain⟨c,k,j⟩:=e;cases c with
 |cell a=>
  rcases h with h|⟨g,f⟩;exact .inl (d _ h);exact .inr ⟨i _ g,f⟩
 |obj b=>exact⟨d _ h.1,h.2⟩
 |mark m=>exact h
 |output=>trivial
 |goroutines=>exact h
def rh(c:∀b,O b->O' b)(w a:Δ):∀b,grow O w a b->grow O' w a b:=λb h=>h.imp (c b) id
def Guar.more{X:Event->Prop}{a:Δ}{c:Array Event}(d:∀b,O b->O' b)(k:∀b,K b->K' b)(h:Guar O K X w a c):Guar O' K' X w a c:=
 ⟨λb f j=>h.a b f λi=>j (d b i),h.size,h.tape,h.d,λe g=>(h.c e g).imp (Ev.more (rh d w a) k) id⟩
def aC.more{P:Program}{Y:TypeId}{y:Θ->Ξ}{W:Nat}{X:List bE}{C:nX}{g:Goroutine}(h:aC P Y y W X C O K g w):∀{r s:ϑ},(∀b,O b->r b)->(∀b,K b->s b)->aC P Y y W X C r s g w:=by
 induction h with
 |idle d k _ p=>
  intro r s f j;refine .idle d (λa c=>?_) λa o m l c n=>p a o m l (Rely.dZ f j c) n (rh f a m) j;obtain⟨o,m,l,E,G⟩:=k a (Rely.dZ f j c);exact⟨o,m,l,E,Guar.more f j G⟩
 |fin d k=>
  intro r s f j;refine .fin d λa c=>?_;obtain⟨v,l,E,G,e3⟩:=k a (Rely.dZ f j c);exact⟨v,l,E,λe n=>Ev.more f j (G e n),e3⟩
 |enter L hW _ p=>
  intro r s f j;exact .enter (f _ L) hW (p (λb q=>⟨f b q.1,q.2⟩) j)
 |kd d k _ p=>
  intro r s f j;exact .kd d (λa c=>k a (Rely.dZ f j c)) λa o m l c n=>p a o m l (Rely.dZ f j c) n f j
 |add d x k _ p=>
  intro r s f j;exact .add d x (λa c=>k a (Rely.dZ f j c)) λa o m l v c F u n=>p a o m l v (Rely.dZ f j c) F u n f j
 |en d k _ p=>
  intro r s f j;exact .en d (λa c=>k a (Rely.dZ f j c)) λa o m l c n=>p a o m l (Rely.dZ f j c) n f j
 |go Q Bs R d x hB hR N k hc _ p=>
  intro r s f j;exact .go Q Bs R d x (λb q=>f b (hB b q)) (λb q=>(hR b q).imp (f b) (j b)) N (λa c=>k a (Rely.dZ f j c)) (λa o t m l c n=>hc a o t m l (Rely.dZ f j c) n) λa o t m l c n=>p a o t m l (Rely.dZ f j c) n (λb q=>⟨f b q.1,q.2⟩) λb q=>q.imp (j b) id
 |wd d k _ p=>
  intro r s f j;exact .wd d (λa c=>k a (Rely.dZ f j c)) λa o m l c n=>p a o m l (Rely.dZ f j c) n f j
 |ld d k _ _ S M=>
  intro r s f j;exact .ld d (λa c=>k a (Rely.dZ f j c)) (λa o m l c u n=>S a o m l (Rely.dZ f j c) u n f j) λa o m l v c h1 h2 u n=>M a o m l v (Rely.dZ f j c) h1 h2 u n f j
 |cas d D z _ _ V T=>
  intro r s f j;exact .cas d (λa c=>D a (Rely.dZ f j c)) (λa c=>z a (Rely.dZ f j c)) (λa o m l c u n=>V a o m l (Rely.dZ f j c) u n f j) λa o m l v c F u n=>T a o m l v (Rely.dZ f j c) F u n f j
 |sem d A B k _ p=>
  intro r s f j;exact .sem d A (λa c=>B a (Rely.dZ f j c)) (λa c=>k a (Rely.dZ f j c)) λa o m l c u n=>p a o m l (Rely.dZ f j c) u n f j
 |l4 d k _ p=>
  intro r s f j;exact .l4 d (λa c=>k a (Rely.dZ f j c)) λa o m l c u n=>p a o m l (Rely.dZ f j c) u n f j
 |ke d k _ p=>
  intro r s f j;exact .ke d (λa c=>k a (Rely.dZ f j c)) λa o m l c n=>p a o m l (Rely.dZ f j c) n f j
 |aq d k _ p=>
  intro r s f j;exact .aq d (λa c=>k a (Rely.dZ f j c)) λa o m l Os c Z H I n=>p a o m l Os (Rely.dZ f j c) Z (λi U b q=>⟨λh=>(H i U b q).1 (f b h),λh=>(H i U b q).2.1 (j b h),(H i U b q).2.2⟩) I n (λb q=>q.imp (f b) id) j
def KI(K0:ϑ)(H0:Nat->Option Obj)(O K:ϑ)(w:Δ):Prop:=∀b,K0 b->K b/\¬O b/\b<w.heap.size/\w.heap[b]?=H0 b
section
variable {K0:ϑ}{H0:Nat->Option Obj}{O K:ϑ}{A:Ξ}{X:Event->Prop}{w dJ w':Δ}{es:Array Event}{e0:Os×Array (Nat×ByteArray)}
def KI.rely(h:KI K0 H0 O K w)(c:Rely O K A w dJ):KI K0 H0 O K dJ:=λb a=>⟨(h b a).1,(h b a).2.1,yg (h b a).2.2.1 c.size,(c.a b (.inr (h b a).1)).trans (h b a).2.2.2⟩
def KI.b(h:KI K0 H0 O K dJ)(c:Guar O K X dJ w' es):KI K0 H0 (grow O dJ w') K w':=λb a=>⟨(h b a).1,λe=>e.elim (h b a).2.1 λe=>by have:=(h b a).2.2.1;omega,yg (h b a).2.2.1 c.size,(c.a b (h b a).2.2.1 (h b a).2.1).trans (h b a).2.2.2⟩
def KI.a(h:KI K0 H0 O K w){a:Addr}(d:¬K0 a.block)(v:Θ):KI K0 H0 O K (w.setCell a v):=λb c=>⟨(h b c).1,(h b c).2.1,by have:=(h b c).2.2.1;simpa using this,((aside_setCell w a v).block b λe=>d (e▸c)).trans (h b c).2.2.2⟩
end
def AU{g k c j:Goroutine}{w i:Δ}{f e:Array Event}(h:GStep.spawn g c w f=GStep.spawn k j i e):g=k/\c=j/\w=i/\f=e:=by injection h with a b c d;exact⟨a,b,c,d⟩
def aC.d{P:Program}{Y:TypeId}{y:Θ->Ξ}{H:Nat}{X:List bE}{A:nX}{O K:ϑ}{g:Goroutine}{w:Δ}(h:aC P Y y H X A O K g w){K0:ϑ}{H0:Nat->Option Obj}{e0:Os×Array (Nat×ByteArray)}:KI K0 H0 O K w->(A≠.free->¬K0 H)->w.eo=e0->aC P Y (λv w'=>y v w'/\w'.eo=e0/\∀b,K0 b->w'.heap[b]?=H0 b) H X A O K g w:=by
 induction h with
 |idle d f _ p=>
  intro l n j;refine .idle d f λc t w' s a k=>?_;obtain⟨o,a0,a1,m,F⟩:=f c a;obtain⟨rfl,rfl,rfl⟩:=aF (m.symm.trans k);exact p c _ _ _ a k ((l.rely a).b F) n (F.d.trans (a.f.trans j))
 |fin d f=>
  intro l n j;refine .fin d λc a=>?_;obtain⟨v,s,m,F,e3⟩:=f c a;exact⟨v,s,m,F,e3,a.f.trans j,λb r=>(l.rely a b r).2.2.2⟩
 |enter E hW _ p=>
  intro l n j;exact .enter E hW (p (λb r=>⟨(l b r).1,λh=>(l b r).2.1 h.1,(l b r).2.2⟩) (λ_ r=>(l _ r).2.1 E) j)
 |kd d f _ p=>
  intro l n j;refine .kd d f λc t w' s a k=>?_;obtain⟨o,m⟩:=f c a;obtain⟨rfl,rfl,rfl⟩:=aF (m.symm.trans k);exact p c _ _ _ a k (l.rely a) (λ_=>n ς) (a.f.trans j)
 |add d x f _ p=>
  intro l n j;refine .add d x f λc t w' s v a C q k=>?_;obtain⟨o,m⟩:=f c a v C q;obtain⟨rfl,rfl,rfl⟩:=aF (m.symm.trans k);exact p c _ _ _ v a C q k ((l.rely a).a (n ς) _) (λ_=>n ς) (a.f.trans j)
 |en d f _ p=>
  intro l n j;refine .en d f λc t w' s a k=>?_;obtain⟨o,m⟩:=f c a;obtain⟨rfl,rfl,rfl⟩:=aF (m.symm.trans k);exact p c _ _ _ a k (l.rely a) (λ_=>n ς) (a.f.trans j)
 |go Q Bs R d x hB hR M f hc _ p=>
  intro l n j;refine .go Q Bs R d x hB hR M f hc λc t T w' s a k=>?_;obtain⟨o,G,m⟩:=f c a;obtain⟨rfl,rfl,rfl,rfl⟩:=AU (m.symm.trans k);exact p c _ _ _ _ a k (λb r=>⟨.inl (l.rely a b r).1,λh=>(l.rely a b r).2.1 h.1,(l.rely a b r).2.2⟩) (λ_=>n ς) (a.f.trans j)
 |wd d f _ p=>
  intro l n j;refine .wd d f λc t w' s a k=>?_;obtain⟨o,m⟩:=f c a;obtain⟨rfl,rfl,rfl⟩:=aF (m.symm.trans k);exact p c _ _ _ a k (l.rely a) (λ_=>n ς) (a.f.trans j)
 |ld d f _ _ S L=>
  intro l n j;refine .ld d f (λc t w' s a q k=>?_) λc t w' s v a h1 Z q k=>?_;obtain⟨o,m⟩:=f c a 0 (oI _) q;obtain⟨rfl,rfl,rfl⟩:=aF (m.symm.trans k);exact S c _ _ _ a q k (l.rely a) (λ_=>n ς) (a.f.trans j);obtain⟨o,m⟩:=f c a v Z q;obtain⟨rfl,rfl,rfl⟩:=aF (m.symm.trans k);exact L c _ _ _ v a h1 Z q k (l.rely a) (λ_=>n ς) (a.f.trans j)
 |cas d z u _ _ U N=>
  intro l n j;refine .cas d z u (λc t w' s a q k=>?_) λc t w' s v a C q k=>?_;obtain⟨o,m⟩:=z c a q;obtain⟨rfl,rfl,rfl⟩:=aF (m.symm.trans k);exact U c _ _ _ a q k ((l.rely a).a (n ς) _) (λ_=>n ς) (a.f.trans j);obtain⟨o,m⟩:=u c a v C q;obtain⟨rfl,rfl,rfl⟩:=aF (m.symm.trans k);exact N c _ _ _ v a C q k (l.rely a) (λ_=>n ς) (a.f.trans j)
 |sem d B D f _ p=>
  intro l n j;refine .sem d B D f λc t w' s a q k=>?_;obtain⟨o,m⟩:=f c a q;obtain⟨rfl,rfl,rfl⟩:=aF (m.symm.trans k);exact p c _ _ _ a q k ((l.rely a).a (n ς) _) (λ_=>n ς) (a.f.trans j)
 |l4 d f _ p=>
  intro l n j;refine .l4 d f λc t w' s a q k=>?_;obtain⟨o,m⟩:=f c a q;obtain⟨rfl,rfl,rfl⟩:=aF (m.symm.trans k);exact p c _ _ _ a q k (l.rely a) (λ_=>n ς) (a.f.trans j)
 |ke d f _ p=>
  intro l n j;refine .ke d f λc t w' s a k=>?_;obtain⟨o,m⟩:=f c a;obtain⟨rfl,rfl,rfl⟩:=aF (m.symm.trans k);exact p c _ _ _ a k (l.rely a) (λ_=>n ς) (a.f.trans j)
 |aq d f _ p=>
  intro l n j;refine .aq d f λc t w' s Os a hq W I k=>?_;obtain⟨o,m⟩:=f c a;obtain⟨rfl,rfl,rfl⟩:=aF (m.symm.trans k);exact p c _ _ _ Os a hq W I k (λb r=>⟨(l.rely a b r).1,λh=>h.elim (l.rely a b r).2.1 λ⟨i,hi,ho⟩=>(W i hi b ho).2.1 (l.rely a b r).1,(l.rely a b r).2.2⟩) (λe=>absurd rfl e) (a.f.trans j)
