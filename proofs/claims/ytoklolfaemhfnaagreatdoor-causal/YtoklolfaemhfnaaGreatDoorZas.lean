import Derived.Shelf.SlSortCmp.WholeK
import Derived.Shelf.Lay
import Derived.Ground.SlsfProg
import Derived.Test.YtoklolfaemhfnaaGreatDoorZaq
import Derived.Test.YtoklolfaemhfnaaGreatDoorZar
set_option maxRecDepth 100000
set_option maxHeartbeats 0
set_option linter.defProp false
open Go.Proofs.Tryz (prog)
namespace Go.Proofs.YtoklolfaemhfnaaGreatDoor
section
open Go.RowKit
open Go.ChangeMaps (setBlock)
variable {w w':World}{F:Nat->Prop}{b:Nat}{h:Hd}{kn:List (List Int)}{l:aL}{evs:List Ev}{snt:List bC}{kb mb:Nat}{rbs:List Nat}{es:Array MapEntry}{clk:Nat}{ev sv:Value}
def mw:(prog.info? 64).map (fun i=>(i.zero,i.size,i.bytes))=some (some (.agg #[J 0,J 0,J 0,J 0,J 0,.string ⟨#[]⟩]),6,56):=κ
def iM(p:PA w F b h kn l evs snt kb mb rbs es clk ev sv){r:Nat}(d:rbs[h.a]?=some r):Calls prog 119 #[pT b 0] w fun e a=>e=.returned (sT r h.n h.n)/\Below w w a/\a.heap=w.heap:=(IP b kb h _ ev sv rbs kn w p.a p.e r d).mono fun e a c=>by
 obtain⟨rfl,m,rfl⟩:=c;exact⟨rfl,below_drewN (yi _ _) m,ς⟩
def pG(p:PA w F b h kn l evs snt kb mb rbs es clk ev sv)(m:Codec.Msg)(M:Option Addr)(O P:Nat)(i:Int)(s:Nat)(hs:s<h.n)(a2:m.a=s)(a9:h.a<h.n)(c4:evs.length<=1000000000000) :
 Calls prog 138 #[pT b 0,aU m (.slice M O P),J i] w fun e d=>e=.returned (.tuple #[])/\cW (fun x=>x=b\/x∈rbs\/ev.ownBlock=some x) w d/\∃a6,(∀g,a6.ownBlock=some g->ev.ownBlock=some g\/w.heap.size<=g)/\PA d (aY F w) b h (kn.set h.a ((kn.getD h.a []).set s m.seq)) l (evs++[⟨i,h.d,m.a,m.seq,0,m.b⟩]) snt kb mb rbs es clk a6 sv:=by
 obtain⟨ms,f,mt,t⟩:=m;simp only at a2;subst a2;simp only;obtain⟨r,hr,B,c0, -⟩:=p.m a9;obtain⟨i0,b7,b8,b4,b2⟩:=info_parts mw;have b0:Hid (af (w.alloc (.cells #[J s,J f,.slice M O P,.string t] 179)) w.heap.size 179 #[J s,J f,.slice M O P,.string t]):=af.d w w.heap.size rfl 179 _;have G:Hid (Below w w (w.alloc (.cells #[J s,J f,.slice M O P,.string t] 179))):=(yi _ _).alloc (yb _) _;have HR:Hid (∀d,Below w w d->Calls prog 119 #[pT b 0] d fun e a4=>e=.returned (sT r h.n h.n)/\Below d d a4/\a4.heap=d.heap):=fun d o=>iM (p.j o) hr;have a7:Hid (∀d,Below w w d->d.frozen? (aT r s)=false/\∃c,d.cell? (aT r s)=some c):=fun d o=>by
  have q:=B.c o B.f;exact⟨q.b s,_,q.a s _ (ie ω)⟩
 have a5:Hid (∀d,Below w w d->PA (d.setCell ⟨r,s,none⟩ (J f)) F b h (kn.set h.a ((kn.getD h.a []).set s f)) l evs snt kb mb rbs es clk ev sv/\cW (fun x=>x=b\/x∈rbs\/ev.ownBlock=some x) w (d.setCell ⟨r,s,none⟩ (J f))):=fun d o=>by
  have q:=(B.c o B.f).e s (J f);rw[vT] at q;refine⟨(p.j o).a0 hr (by simpa using c0) (fun x _ N=>yT _ _ _ _ N) q,⟨o.os,o.tape,o.output,by simpa using o.size,fun x N hF=>?_⟩⟩;rw[yT _ _ _ _ (fun e=>hF (.inr (.inl (by rw[show x=r from e];exact yy hr))))];exact o.block x N
 have c5:0<=s:=ω;have E:s<h.n:=ω;have c3:=B.f;have Y:Hid (∀g,ev.ownBlock=some g->g<w.heap.size):=fun g hg=>p.c.k hg;clear p B hr;unfold aU;go_enter Tryz.func138,Tryz.ntmps138
 go_wp2_with fail
 have HX:Hid (∀d,Below (w.heap.size+1) (w.alloc (.cells #[J s,J f,.slice M O P,.string t] 179)) d->d.cell? (aT w 0)=some (J s)/\d.cell? (aT w 1)=some (J f)/\d.cell? (aT w 3)=some (.string t)):=fun d o=>by
  have q:=b0.out.c o ω;exact⟨q.a 0 _ rfl,q.a 1 _ rfl,q.a 3 _ rfl⟩
 have a0:Hid (Below (w.heap.size+1) (w.alloc (.cells #[J s,J f,.slice M O P,.string t] 179)) (w.alloc (.cells #[J s,J f,.slice M O P,.string t] 179))):=yi _ _;have E:Hid ((w.alloc (.cells #[J s,J f,.slice M O P,.string t] 179)).heap.size=w.heap.size+1):=by simp[Hid]
 generalize b6:w.alloc _=w1 at G HX a0 E ⊢;clear b0 b6;refine gl.b (fun d=>Below (w.heap.size+1) w1 d/\d.cell? _=some (J s)/\d.cell? _=some (J f)) 7 rfl (by have:=HX.out _ a0.out.drew;exact⟨(yi _ _).drew,this.1,this.2.1⟩) (fun a=>?_);refine tk 0 ?_;refine tk 2 ?_;refine tk 3 ?_;refine tk 4 ?_;refine tk 5 ?_;refine te 1 fun K k=>?_;go_simp;refine(HR.out _ (G.out.drew)).mono ?_;rintro e H ⟨rfl,a1,c2⟩;have A:Hid (Below (w.heap.size+1) w1 H):=((yi _ _).drew).trans (a1.mono (by simp[E.out]));have D:=ah (G.out.trans (A.out.mono ω));go_wp2_with fail
 refine k.out _ _ (fun _=>by have:=HX.out _ A.out;exact⟨A.out,this.1,this.2.1⟩) (fun a=>?_);clear k K;try simp only[pU]
 have a:=a θ;refine tk 6 ?_;obtain⟨a3,cc,b9⟩:=a7.out H D.out;refine te 7 fun K k=>?_;go_simp;refine k.out _ _ (fun h=>absurd rfl h) (fun _=>?_);clear k K;try simp only[pU]
 refine gl.done κ ?_ _;obtain⟨p3,S⟩:=a5.out H D.out;have x3:=HX.out H A.out;have y0:(H.setCell ⟨r,s,none⟩ (J f)).cell? (aT w 0)=some (J s):=(World.cell?_setCell_far _ _ _ _ (by show r≠w.heap.size;omega)).trans x3.1;have y1:(H.setCell ⟨r,s,none⟩ (J f)).cell? (aT w 1)=some (J f):=(World.cell?_setCell_far _ _ _ _ (by show r≠w.heap.size;omega)).trans x3.2.1;have y3:(H.setCell ⟨r,s,none⟩ (J f)).cell? (aT w 3)=some (.string t):=(World.cell?_setCell_far _ _ _ _ (by show r≠w.heap.size;omega)).trans x3.2.2;have v:Hid (w.heap.size<(H.setCell ⟨r,s,none⟩ (J f)).heap.size):=by have:=A.out.size;have:=E.out;simp[Hid];omega
 generalize (H.setCell ⟨r,s,none⟩ (J f))=z at p3 S y0 y1 y3 v ⊢;clear HX a5 HR a7 b9 a3 a A D a1 c2 x3 a0 G E;have C:Hid (PA z F b h (kn.set h.a ((kn.getD h.a []).set s f)) l evs snt kb mb rbs es clk ev sv):=p3;have c6:=p3.a.a 6 _ rfl;have U:=p3.a.a 17 _ rfl;simp only[Hd.c,yf,yd,ye] at c6 U;have X:Hid (cW (fun x=>x=b\/x∈rbs\/ev.ownBlock=some x) w z):=S;clear p3 S;have HS:Hid (∀d,Below z z d->d.cell? (aT b 6)=some (J h.d)/\d.cell? (aT b 17)=some ev/\d.cell? (aT w 0)=some (J s)/\d.cell? (aT w 1)=some (J f)/\d.cell? (aT w 3)=some (.string t)):=fun d o=>
  ⟨(o.cell (p:=(aT b 6)) C.out.a.f).trans c6,(o.cell (p:=(aT b 17)) C.out.a.f).trans U,(o.cell (p:=(aT w 0)) v.out).trans y0,(o.cell (p:=(aT w 1)) v.out).trans y1,(o.cell (p:=(aT w 3)) v.out).trans y3⟩
 clear c6 U y0 y1 y3;go_wp2_with fail
 refine gl.b (fun d=>d.cell? (aT b 6)=some (J h.d)/\d.cell? (aT b 17)=some ev/\d.cell? (aT w 0)=some (J s)/\d.cell? (aT w 1)=some (J f)/\d.cell? (aT w 3)=some (.string t)) 21 rfl (HS.out _ (yi _ _).drew) (fun a=>?_)
 (iterate 17 refine χ ?_)
 refine te 17 fun K k=>?_;go_simp;have j:Hid (Below z z (z.alloc (.cells #[J i,J h.d,J s,J f,J 0,.string t] 64)).drew):=((yi _ _).alloc (yb _) _).drew;refine k.out _ _ (fun _=>HS.out _ j.out) (fun a=>?_);clear k K;try simp only[pU]
 have HE:Hid (af (z.alloc (.cells #[J i,J h.d,J s,J f,J 0,.string t] 64)).drew z.heap.size 64 #[J i,J h.d,J s,J f,J 0,.string t]):=(af.d z z.heap.size rfl 64 _).i;have V:Hid ((z.alloc (.cells #[J i,J h.d,J s,J f,J 0,.string t] 64)).drew.heap.size=z.heap.size+1):=by simp[Hid]
 generalize (z.alloc (.cells #[J i,J h.d,J s,J f,J 0,.string t] 64)).drew=w4 at j HE V a ⊢;refine te 18 fun K k=>?_;refine step_append_lies w4 rfl (.tmp 17) (.tmp 30) 35 rfl 0 64 i0 _ 6 56 Tryz.underlying35 b7 b8 b4 b2 rfl θ ev evs.length (az evs) rfl (aQ C.out.c.d j.out) (aT z 0) 1 1 (Ev.f ⟨i,h.d,s,f,0,t⟩) rfl rfl (IZ HE.out) (by intro u hu;simp only[Ev.f,yF,yU,or_false] at hu;rcases hu with rfl|rfl|rfl|rfl|rfl|rfl <;> rfl) ω (by simp[maxLen];omega) ω (oI _) (z.heap.size+1) V.out ?_;intro g b5 Z Q y R b1;have W:Hid (Z.cell? (aT b 6)=some (J h.d)/\Z.cell? (aT b 17)=some ev/\Z.cell? (aT w 0)=some (J s)/\Z.cell? (aT w 1)=some (J f)/\Z.cell? (aT w 3)=some (.string t)):=by
  have h4:=HS.out _ j.out;have a8:b<w4:=yg C.out.a.f j.out.size;have T:w.heap.size<w4:=yg v.out j.out.size;have nb:some b≠ev.ownBlock:=fun e=>by
   exact C.out.c.o e.symm C.out.a θ rfl
  have nx:some w.heap.size≠ev.ownBlock:=fun e=>by have:=Y.out _ e.symm;omega
  exact⟨(y.cell_far ⟨b,6,none⟩ a8 nb).trans h4.1,(y.cell_far ⟨b,17,none⟩ a8 nb).trans h4.2.1,(y.cell_far ⟨w.heap.size,0,none⟩ T nx).trans h4.2.2.1,(y.cell_far ⟨w.heap.size,1,none⟩ T nx).trans h4.2.2.2.1,(y.cell_far ⟨w.heap.size,3,none⟩ T nx).trans h4.2.2.2.2⟩
 have L:=C.out.a4 j.out y (e:=⟨i,h.d,s,f,0,t⟩) Q (R.imp id (fun e=>by omega));have c1:Hid (ev.ownBlock=some g\/w.heap.size<=g):=R.imp id fun e=>by have:=j.out.size;have:=X.out.size;omega
 have I:Hid (cW (fun x=>x=b\/ev.ownBlock=some x) z (Z.setCell ⟨b,17,none⟩ (sT g (evs.length+1) b5))/\_):=L;have a3:Z.frozen? (aT b 17)=false:=by
  have nb:some b≠ev.ownBlock:=fun e=>C.out.c.o e.symm C.out.a θ rfl;rw[y.frozen_far ⟨b,17,none⟩ (yg C.out.a.f j.out.size) nb];exact(C.out.a.c j.out C.out.a.f).b 17
 clear L Q y R b1 a HE V j HS;refine k.out _ _ (fun _=>W.out) (fun a=>?_);clear k K;try simp only[pU]
 have a:=a θ;refine te 19 fun K k=>?_;go_simp;refine k.out _ _ (fun _=>W.out) (fun a=>?_);clear k K;try simp only[pU]
 refine te 20 fun K k=>?_;go_simp;refine k.out _ _ (fun _=>W.out) (fun a=>?_);clear k K;try simp only[pU]
 have a:=a θ;refine te 21 fun K k=>?_;go_simp;refine k.out _ _ (fun h=>absurd rfl h) (fun _=>?_);clear k K;try simp only[pU]
 refine gl.done κ ?_ _;go_wp2_with fail
 go_end0
 refine⟨rfl,X.out.c (I.out.1.e fun x _ N=>.inl (N.imp id .inr)),_,fun g' b3=>by cases b3;exact c1.out,I.out.2.k fun x N=>N.elim .inl fun N=>.inr ?_⟩;have:=X.out.size;omega
def lE(u n v:Nat)(m:Codec.Msg)(g:Option Addr)(k o:Nat)(s:Nat)(x:Int)(E:s<n)(c:m.a=s)(j:w.cell? (aT u s)=some (J x)) :
 Calls prog 273 #[sT u n v,aU m (.slice g k o)] w fun e y=>e=.returned (.bool (decide (m.seq<=x)))/\Below w w y:=by
 obtain⟨D,q,B,t⟩:=m;simp only at c;subst c;simp only;have f:=yI w _ j;have a:Hid (Below _ w (w.alloc (.cells #[J s,J q,.slice g k o,.string t] 179))):=(yi _ _).alloc (yb _) _;have d:=(a.out.cell f).trans j;have i:=af.d w _ rfl 179 #[J s,J q,.slice g k o,.string t];have p:=i.a 0 _ rfl;have r:=i.a 1 _ rfl;simp only[yf,yd,ye] at p r;have z:0<=s:=ω;have A:s<n:=ω;clear j i;unfold aU;go_enter Tryz.func273,Tryz.ntmps273
 go_wp2_with fail
 generalize w.alloc _=C at a d p r ⊢;go_quiet (fail)
 go_wp2_with fail
 go_ret;exact⟨aB rfl,below_drewN a.out _⟩
def ey(row time:List Int)(s:Nat):Bool:=(List.range row.length).all fun q=>decide (q=s) || decide (time.getD q 0<=row.getD q 0)
def ku{c a:List Int}{s:Nat}:ey c a s=true↔∀q,q<c.length->q≠s->a.getD q 0<=c.getD q 0:=by
 unfold ey;rw[y5];constructor
 ·intro f q d g;have:=f q (by simpa using d);simpa[g] using this
 ·intro f q d;by_cases e:q=s
  ·simp[e]
  ·have:=f q (by simpa using d) e;rw[decide_eq_true this];simp
def Av(p:PA w F b h kn l evs snt kb mb rbs es clk ev sv)(hn:h.n<=6)(v:h.a<h.n)(m:Codec.Msg)(o A:Nat)(s:Nat)(K:m.a=s)(P:m.c.length=h.n)(S:∀q,q<h.n->w.cell? (aT o q)=some (J (m.c.getD q 0))) :
 Calls prog 304 #[pT b 0,aU m (sT o h.n A)] w fun e a=>e=.returned (.bool (ey (kn.getD h.a []) m.c s))/\Below w w a:=by
 obtain⟨ms,E,j,M⟩:=m;simp only at K P S;subst K;simp only;obtain⟨r,hr,B,a4, -⟩:=p.m v;have a0:=yI w _ (S h.a v);have HR:Hid (∀a,Below w w a->Calls prog 119 #[pT b 0] a fun e H=>e=.returned (sT r h.n h.n)/\Below a a H/\H.heap=a.heap):=fun a f=>iM (p.j f) hr;have HC:Hid (∀a,Below w w a->∀q,q<h.n->a.cell? (aT r q)=some (J ((kn.getD h.a []).getD q 0))/\a.cell? (aT o q)=some (J (j.getD q 0))):=fun a f q t=>⟨(B.c f B.f).a q _ (ie ω),(f.cell (p:=(aT o q)) a0).trans (S q t)⟩;have W:=af.d w _ rfl 179 #[J s,J E,sT o h.n A,.string M];have z:Hid (∀a,Below (w.heap.size+1) (w.alloc (.cells #[J s,J E,sT o h.n A,.string M] 179)) a->Below w w a/\a.cell? (aT w 0)=some (J s)/\a.cell? (aT w 2)=some (sT o h.n A)):=fun a f=>⟨((yi _ _).alloc (yb _) _).trans (f.mono ω),(W.c f ω).a 0 _ rfl,(W.c f ω).a 2 _ rfl⟩;have L:Hid (Below (w.heap.size+1) (w.alloc (.cells #[J s,J E,sT o h.n A,.string M] 179)) (w.alloc (.cells #[J s,J E,sT o h.n A,.string M] 179))):=yi _ _;have N:Hid ((w.alloc (.cells #[J s,J E,sT o h.n A,.string M] 179)).heap.size=w.heap.size+1):=by simp[Hid]
 have u:Hid (∀k,(k=h.n->(∀q,q<k->q≠s->j.getD q 0<=(kn.getD h.a []).getD q 0)->true=ey (kn.getD h.a []) j s)/\(k<h.n->k≠s->(kn.getD h.a []).getD k 0<j.getD k 0->false=ey (kn.getD h.a []) j s)):=fun k=>by
  refine⟨fun hk c=>?_,fun hk d a3=>?_⟩
  ·subst hk;exact(ku.2 fun q t d=>c q ω d).symm
  ·cases Y:ey (kn.getD h.a []) j s
   ·rfl
   ·exact absurd (ku.1 Y k ω d) ω
 clear p B hr S W;unfold aU;go_enter Tryz.func304,Tryz.ntmps304
 go_wp2_with fail
 generalize w.alloc _=T at z L N ⊢;refine(HR.out T (z.out T L.out).1).mono ?_;rintro e w2 ⟨rfl,G, -⟩;have Z:Hid (Below (w.heap.size+1) T w2):=G.mono (by rw[N.out];omega);clear G;go_wp2_with fail
 go_loopw [10] (fun i wr=>∃k:Nat,k<=h.n/\i=J k/\(∀q,q<k->q≠s->j.getD q 0<=(kn.getD h.a []).getD q 0)/\Below _ T wr) (fun i _=>h.n - (intOf i).toNat)
 case atStart=>exact⟨0,ω,rfl,fun q t=>absurd t ω,Z.out⟩
 case round=>
  obtain⟨k,hk,rfl,c,g⟩:=hrel;have Q:=ah g;obtain⟨f,x0,x2⟩:=z.out wr g;have C:=ah f;by_cases D:k<h.n
  ·obtain⟨cr,ct⟩:=HC.out wr f k D;have a1:k<h.n:=ω;have a5:0<=k:=ω;have U:=(u.out k).2 D;have R:Hid ((k≠s->j.getD k 0<=(kn.getD h.a []).getD k 0)->∀q,q<k+1->q≠s->j.getD q 0<=(kn.getD h.a []).getD q 0):=fun hh q t d=>by
    rcases Kq.1 t with t|rfl
    ·exact c q t d
    ·exact hh d
   have HE:=ah U;clear c U g f;generalize (kn.getD h.a []).getD k 0=x at cr R HE;generalize j.getD k 0=y at ct R HE;by_cases I:k=s
   ·have O:k=(s:Int):=ω;subst I;go_wp2_with fail
    go_roundw
    case rel=>exact⟨k+1,ω,by go_num,R.out (fun hh=>absurd rfl hh),Q.out⟩
    case measure=>simp[intOf];omega
   ·have O:¬(k:Int)=(s:Int):=ω;by_cases X:x<y
    ·go_wp2_with fail
     go_ret;exact⟨aB (HE.out I X),C.out⟩
    ·go_wp2_with fail
     go_roundw
     case rel=>exact⟨k+1,ω,by go_num,R.out (fun _=>by omega),Q.out⟩
     case measure=>simp[intOf];omega
  ·have hx:k=h.n:=ω;have a2:¬(k:Int)<(h.n:Int):=ω;have U:=ah ((u.out k).1 hx c);go_wp2_with fail
   go_ret;exact⟨aB U.out,C.out⟩
def ql{w:World}{X:Nat}{T:TypeId}{k m n j:Value}(h:af w X T #[k,m,n,j])(a d c e:Value) :
 af ((((w.setCell ⟨X,0,none⟩ a).setCell ⟨X,1,none⟩ d).setCell ⟨X,2,none⟩ c).setCell ⟨X,3,none⟩ e) X T #[a,d,c,e]/\ej X w ((((w.setCell ⟨X,0,none⟩ a).setCell ⟨X,1,none⟩ d).setCell ⟨X,2,none⟩ c).setCell ⟨X,3,none⟩ e):=by
 have o:=h.e 0 a;have g:=o.e 1 d;have f:=g.e 2 c;have i:=f.e 3 e;exact⟨i,((((ej.d X w).a 0 a).a 1 d).a 2 c).a 3 e⟩
def pC{l:aL}(h:cV l){x y:Codec.Msg × Value}(c:x∈l)(d:y∈l)(g:x≠y):¬gL x.1.a x.1.seq y.1=true:=by
 intro e;obtain⟨i,m,rfl⟩:=y4 c;obtain⟨j,f,rfl⟩:=y4 d;have n:=Lb.1 h;rcases Ks i j with a|a|a
 ·grind
 ·grind
 ·have k:=n j i f m a;rw[cu] at e;rw[<-Kr,cu] at k;omega
def jf(p:PA w F b h kn l evs snt kb mb rbs es clk ev sv)(j:0<h.n){x:Codec.Msg × Value}(f:x∈l)(a:x.1.c.length=h.n):∃d o,x.2=sT d h.n o/\∀q,q<h.n->w.cell? (aT d q)=some (J (x.1.c.getD q 0)):=by
 have r:=(p.d x f).1.d;rcases r.2 with t|⟨g,c,s,m, -⟩
 ·omega
 ·have k:=r.cells (by rw[m];rfl);refine⟨g,c,ν,fun q i=>?_⟩;have:=k q (J (x.1.c.getD q 0)) (by simp[ints,a,i]);have e:(⟨g,0,none⟩:Addr).add q=(aT g q):=by unfold Addr.add;split <;> simp_all
  grind
variable {n j C:Nat}{x:Codec.Msg × Value}{w'':World}{kn':List (List Int)}{l':aL}{evs':List Ev}{es':Array MapEntry}{ev':Value}
def getD_some{l:List Int}{i:Nat}(h:i<l.length):l[i]?=some (l.getD i 0):=by simp[h]
def wK(row:List Int):Nat:=(row.map fun x=>(20 - x).toNat).sum
def mj(w:World)(b:Nat):Nat:=match w.cell? (aT b 17) with|some (.slice _ n _)=>n|_=>0
def PA.v(p:PA w F b h kn l evs snt kb mb rbs es clk ev sv):mj w b=evs.length:=by
 have f:=p.a.a 17 _ rfl;unfold YtoklolfaemhfnaaGreatDoor.mj;rw[f];show (match (some ev) with|some (.slice _ n _)=>n|_=>0)=_;rcases p.c.d.2 with ⟨a,d⟩|⟨g,c,e,a, -⟩
 ·rw[a,d]
 ·rw[a]
def Ab(n:Nat)(row:List Int):Prop:=∀q,q<n->0<=row.getD q 0/\row.getD q 0<=20
def cL(l:aL)(f:Codec.Msg->Bool):(l.filter fun x=>f x.1).map Prod.fst=(l.map Prod.fst).filter f:=by
 rw[List.filter_map];rfl
section
def ES(n:Nat)(c:n<=6)(w:World):Calls prog 306 #[.int .u64 1,.int .u64 n] w fun e b=>e=.returned (.tuple #[.int .u64 0,.int .u64 n])/\b=w:=by
 have a:n=0\/n=1\/n=2\/n=3\/n=4\/n=5\/n=6:=ω;rcases a with rfl|rfl|rfl|rfl|rfl|rfl|rfl <;>
 ·go_enter Tryz.func306,Tryz.ntmps306
  go_wp2
  go_ret2
  exact⟨rfl,rfl⟩
def IG(n:Nat)(b:n<=6)(w:World):Calls prog 302 #[.int .u64 1,.int .u64 n] w fun e a=>e=.returned (.tuple #[.int .u64 0,.int .u64 n])/\a=w:=by
 go_enter Tryz.func302,Tryz.ntmps302
 go_wp2_with fail
 refine(ES n b w).mono ?_;rintro e c ⟨rfl,rfl⟩;go_wp2_with fail
 go_ret2
 exact⟨rfl,rfl⟩
def qro(k n:Nat):List Value:=List.replicate k (J 20)++List.replicate (n - k) (J 0)
def qV{k n:Nat}(m:Nat):splice (qro k n) k (List.replicate m (J 20))=qro (k+m) n:=by
 unfold splice qro;rw[List.take_left' ς,I2,List.drop_append,I2,show k+m - k=m by omega,Lf ς,List.nil_append,List.drop_replicate,show n - k - m=n - (k+m) by omega,<-I3,List.replicate_append_replicate]
def rO(w t:World)(B g k n m:Nat)(f:Addr)(a c d:Nat)(s:w.heap[g]?=some (.cells (qro k n).toArray 3 (0,0)))(C:k<=n)(A:m=Nat.min a (n - k))(h:∀j,j<m->w.cell? (f.add j)=some (J 20))(z:Below B t w)(q:B<=g) :
 ∃p,(Builtin.copy_ #[69,69] 3 #[.slice (some ⟨g,k,none⟩) (n - k) d,.slice (some f) a c]).run prog w=.ok (J m) p/\p.heap[g]?=some (.cells (qro (k+m) n).toArray 3 (0,0))/\Below B t p:=by
 have o:(prog.info? 3).map (·.size)=some 1:=κ;have u:k+m<=n:=by have:Nat.min a (n - k)<=n - k:=Nat.min_le_right _ _;omega
 have y:(qro k n).length=n:=by simp[qro];omega
 have b:=run_copy_row (P:=prog) w 69 69 3 3 g k (n - k) d f a c _ 3 (List.replicate m (J 20)) Tryz.underlying69 o s (by rw[I2];exact A) (fun j v i=>by
  have l:j<m:=by have:=(ym.1 i).1;simpa using this
  rw[yaW,if_pos l] at i;injection i with i;rw[<-i];exact h j l) (by simp[y];omega) (by intro v x;rw[List.eq_of_mem_replicate x];rfl)
 have r:=qV (k:=k) (n:=n) m;unfold splice at r;rw[I2] at b r;have e:(qro k n).toArray.toList.take k++List.replicate m (Value.int .i64 20)++(qro k n).toArray.toList.drop (k+m)=qro (k+m) n:=by simpa using r
 rw[e] at b;exact⟨_,b,setRow_heap w g _ _ 3 _ s,below_setRow z q _⟩
def Cn(n F U:Nat)(R:n<=6)(Y:0<n)(w:World)(B:w.cell? (aT F 0)=some (J 20)) :
 Calls prog 288 #[sT F 1 U,J n] w fun e T=>∃g,w.heap.size<=g/\e=.returned (sT g n n)/\Below w w T/\∀q,q<n->T.cell? (aT g q)=some (J 20):=by
 have z:=yI w _ B;have S:¬n<0:=ω;have M:=IG n R w;go_enter Tryz.func288,Tryz.ntmps288
 go_wp2_with fail
 refine M.mono ?_;rintro e a ⟨rfl,rfl⟩;have Q:¬9223372036854775807<n:=ω;have X:=Ap n R a;have O:Hid ((a.alloc (.cells (ints (List.replicate n 0)).toArray 3)).heap[a.heap.size]?=some (.cells (qro 0 n).toArray 3 (0,0))):=by
  have:=af.d a _ rfl 3 (ints (List.replicate n 0)).toArray;unfold af at this;rw[Hid,this];simp[qro,ints]
 have l:Hid ((a.alloc (.cells (ints (List.replicate n 0)).toArray 3)).cell? (aT F 0)=some (J 20)):=(I4 _ _ _ z).trans B;have h:Hid (Below a a (a.alloc (.cells (ints (List.replicate n 0)).toArray 3))):=(yi _ _).alloc (yb _) _;obtain⟨w3,D,b,p⟩:=rO _ a _ _ 0 n 1 _ 1 U n O.out (oI _) (by show 1=min 1 (n - 0);omega) (fun j P=>by obtain rfl:j=0:=(by omega);exact l.out) h.out (yb _);simp only[Nat.sub_zero,yS] at D b;have A:=ah b;have G:=ah p;clear M B b p O l h;go_wp2_with fail
 go_loopw [8] (fun i wr=>∃k:Nat,1<=k/\k<=n/\i=J k/\wr.heap[a.heap.size]?=some (.cells (qro k n).toArray 3 (0,0))/\Below a a wr) (fun i _=>n - (intOf i).toNat)
 case atStart=>exact⟨1,ω,ω,rfl,A.out,G.out⟩
 case round=>
  obtain⟨k,a3,hk,rfl,V,L⟩:=hrel;have E:=ah V;have N:=ah L;clear V L;by_cases Z:k<n
  ·have H:(k:Int)<(n:Int):=ω;have a4:(0:Int)<=(k:Int):=ω;have r:(k:Int)<=(n:Int):=ω;obtain⟨w4,t,s,y⟩:=rO wr.drew a a.heap.size a.heap.size k n (Nat.min k (n - k)) (aT a 0) k n (n - k) E.out hk rfl (fun j P=>by
    have u:(⟨a.heap.size,0,none⟩:Addr).add j=(aT a j):=by unfold Addr.add;split <;> simp_all
    have x:j<k:=yg P (Nat.min_le_left _ _);rw[u];show wr.cell? _=_;rw[cell_of_row wr _ j _ 3 (0,0) E.out];unfold qro;rw[ya7,y7 (by simpa using x),yaW,if_pos x]) N.out.drew (yb _)
   have o:=ah s;have C:=ah y;have v:Hid (1<=Nat.min k (n - k)/\Nat.min k (n - k)<=n - k):=⟨by show 1<=min k (n - k);omega,Nat.min_le_right _ _⟩;generalize Nat.min k (n - k)=m at t o v;clear s y;have a2:¬n=k:=ω;go_wp2_with fail
   refine wp_region_held_drew (S:=fun _=>True) rfl trivial (fun c=>?_)
   (iterate 7 refine ψ ?_)
   refine we 7 fun K I=>?_;go_simp;refine I.out _ _ trivial (fun c=>?_);clear I K;try simp only[pU]
   (iterate 2 refine ψ ?_)
   refine wpAnyH_done κ ?_ _;go_wp2_with fail
   have a0:=v.out;have hwrap:IntKind.i64.wrap ((k:Int)+(m:Int))=((k+m:Nat):Int):=by rw[LX];omega
   rw[hwrap];exact⟨⟨k+m,ω,ω,rfl,o.out,C.out⟩,by simp[intOf];omega⟩
  ·have a1:¬(k:Int)<(n:Int):=ω;have r:k=n:=ω;go_wp2_with fail
   go_ret;refine⟨a.heap.size,yb _,rfl,N.out,fun q W=>?_⟩;rw[cell_of_row wr _ q _ 3 (0,0) E.out];simp[qro,r,W]
variable {w w':World}{F:Nat->Prop}{b:Nat}{h:Hd}{kn:List (List Int)}{l:aL}{evs:List Ev}{snt:List bC}{kb mb:Nat}{rbs:List Nat}{es:Array MapEntry}{clk:Nat}{ev sv:Value}
end
def BG{l:aL}:cV l↔Mo.gv (l.map Prod.fst):=by
 unfold cV Mo.gv;rw[List.pairwise_map];constructor
 ·intro c;refine c.imp fun {x y} a e=>?_;rw[<-Kr,cu] at a;exact a ⟨e.1.symm,e.2.symm⟩
 ·intro c;refine c.imp fun {x y} a=>?_;rw[<-Kr,cu];exact fun e=>a ⟨e.1.symm,e.2.symm⟩
structure Ok (h:Hd) (kn:List (List Int)) (ms:List Codec.Msg) (evs:List Ev):Prop where
 e:∀m∈ms,∃s:Nat,s<h.n/\m.a=s/\m.c.length=h.n/\0<=m.seq/\m.seq<=20
 d:Ab h.n (kn.getD h.a [])
 a:evs.length+wK (kn.getD h.a [])<=1000
def jq(f:Codec.Frame)(rv cv mv:Value):Value:=.agg #[J f.c,J f.f,J f.j,J f.b,J f.h,J f.a,J f.e,rv,cv,mv]

def oc(n:Nat)(b:Option Addr)(c:Nat)(w:World):Calls prog 169 #[.slice b n c,J n] w fun e a=>e=.returned (.bool true)/\a=w:=by
 go_enter Tryz.func169,Tryz.ntmps169
 go_wp2
 go_ret;exact⟨rfl,rfl⟩
def od(n:Nat)(b:Option Addr)(c:Nat)(w:World):Calls prog 169 #[.slice b 0 c,J n] w fun e a=>e=.returned (.bool true)/\a=w:=by
 by_cases d:0=n
 ·go_enter Tryz.func169,Tryz.ntmps169
  go_wp2
  go_ret;exact⟨rfl,rfl⟩
 ·go_enter Tryz.func169,Tryz.ntmps169
  go_wp2
  go_ret;exact⟨rfl,rfl⟩



variable {base:Nat}{v:Value}
def mE{l:List Int}(hr:w.ownsRow base 3 1 v n (ints l))(hn:0<n):∃g cap,v=sT g n cap/\base<=g/\g<w.heap.size/\∀j,j<l.length->w.cell? (aT g j)=some (J (l.getD j 0)):=by
 rcases hr.2 with h0|⟨g,cap,cur,hv, -⟩
 ·have:=h0.2;omega
 ·have hob:v.ownBlock=some g:=by rw[hv];rfl
  have hc:=hr.cells hob;refine⟨g,cap,hv,(hr.lt g hob).1,(hr.lt g hob).2,fun j hj=>?_⟩;have:=hc j (J (l.getD j 0)) (by simp[ints,hj]);have hadd:(⟨g,0,none⟩:Addr).add j=(aT g j):=by unfold Addr.add;split <;> simp_all
  rw[hadd] at this;exact this
def bG{sz:Nat}{e:TypeId}{xs:List Value}(hr:w.ownsRow base e sz v n xs):∃ao cap,v=.slice ao n cap:=by
 rcases hr.2 with h0|⟨g,cap,cur,hv, -⟩
 ·exact⟨none,0,by rw[h0.1,h0.2]⟩
 ·exact⟨_,_,hv⟩
def tP:(prog.info? 111).map (fun i=>(i.zero,i.size,i.bytes))=some (some (.agg #[J 0,.string ⟨#[]⟩]),2,24):=κ
def lF(f:Codec.Frame):bC:=(f.j,⟨(Codec.im f).toArray⟩)
def Aw(p:PA w F b h kn l evs snt kb mb rbs es clk ev sv)(f:Codec.Frame)(o:f.f=h.a)(I y D:Option Addr)(A t B E z s:Nat)(hr:aw w w.heap.size (.slice I A t) f.g)(X:aw w w.heap.size (.slice y B E) f.i)(hm:ba w w.heap.size (.slice D z s) f.d)(L:Codec.dg f=true)(hs:snt.length<=1000000) :
 Calls prog 165 #[pT b 0,.agg #[J f.c,J 0,J f.j,J f.b,J f.h,J f.a,J f.e,.slice I A t,.slice y B E,.slice D z s]] w fun e d=>e=.returned (.tuple #[])/\cW (fun x=>x=b\/sv.ownBlock=some x) w d/\∃a0,(∀g,a0.ownBlock=some g->sv.ownBlock=some g\/w.heap.size<=g)/\PA d (aY F w) b h kn l evs (snt++[lF f]) kb mb rbs es clk ev a0:=by
 obtain⟨i0,b2,a3,a7,a2⟩:=info_parts tP;have i:Hid (∀d,Below w w d->Calls prog 168 #[.agg #[J f.c,J h.a,J f.j,J f.b,J f.h,J f.a,J f.e,.slice I A t,.slice y B E,.slice D z s]] d fun e a4=>e=.returned (.tuple #[.string (lF f).2,J 0])/\Below d d a4):=fun d P=>by
  have:=lx f (.slice I A t) (.slice y B E) (.slice D z s) w.heap.size d (hr.a P) (X.a P) (hm.a P) P.size L;rw[o] at this;exact this
 have HP:=ah p;have n:Hid (lF f=(f.j,(lF f).2)):=rfl;obtain⟨fk,fs,fd,Y,fv,fb,Z,fr,fc,fg⟩:=f;simp only at o i n ⊢;subst o;generalize b0:(lF _)=pf at i n ⊢;clear hr X hm L b0;obtain⟨j,S⟩:=pf;have a8:j=fd:=by have:=n.out;injection this
 subst a8;clear n;simp only at i;have c0:=(p.a.c (w':=w.alloc (.cells #[J fk,J 0,J j,J Y,J fv,J fb,J Z,.slice I A t,.slice y B E,.slice D z s] 165)) ((yi _ _).alloc (yb _) _) p.a.f).a 0 _ rfl;simp only[Hd.c,yf,yd] at c0;have HX:Hid (af (w.alloc (.cells #[J fk,J h.a,J j,J Y,J fv,J fb,J Z,.slice I A t,.slice y B E,.slice D z s] 165)) w.heap.size 165 #[J fk,J h.a,J j,J Y,J fv,J fb,J Z,.slice I A t,.slice y B E,.slice D z s]):=af.d w w.heap.size rfl 165 _;have r:Hid (Below w w (w.alloc (.cells #[J fk,J h.a,J j,J Y,J fv,J fb,J Z,.slice I A t,.slice y B E,.slice D z s] 165))):=(yi _ _).alloc (yb _) _;have H:Hid ((w.alloc (.cells #[J fk,J h.a,J j,J Y,J fv,J fb,J Z,.slice I A t,.slice y B E,.slice D z s] 165)).heap.size=w.heap.size+1):=by simp[Hid]
 clear p;go_enter Tryz.func165,Tryz.ntmps165
 go_wp2_with fail
 clear c0;generalize w.alloc _=w1 at HX r H ⊢;refine(i.out w1 r.out).mono ?_;rintro e k ⟨rfl,v⟩;have G:=ah (r.out.trans (v.mono r.out.size));have b1:=ah (HX.out.c v (by rw[H.out];omega));have M:Hid (w.heap.size<k):=by have:=v.size;have:=H.out;simp only[Hid];omega
 clear v HX r H i;go_wp2_with fail
 have C:=ah (HP.out.j G.out);have R:Hid (∀g,sv.ownBlock=some g->g<w.heap.size):=fun g hg=>HP.out.f.k hg;have U:=C.out.a.a 18 _ rfl;have y2:=b1.out.a 2 _ rfl;simp only[Hd.c,yf,yd,ye] at U y2;have HS:Hid (∀d,Below k k d->d.cell? (aT b 18)=some sv/\d.cell? (aT w 2)=some (J j)):=fun d P=>⟨(P.cell (p:=(aT b 18)) C.out.a.f).trans U,(P.cell (p:=(aT w 2)) M.out).trans y2⟩;clear U y2;refine gl.b (fun d=>d.cell? _=some sv/\d.cell? _=some (J j)) 13 rfl (HS.out _ (yi _ _).drew) (fun a=>?_)
 (iterate 9 refine χ ?_)
 refine te 9 fun K m=>?_;go_simp;have c:Hid (Below k k (k.alloc (.cells #[J j,.string S] 111)).drew):=((yi _ _).alloc (yb _) _).drew;refine m.out _ _ (fun _=>HS.out _ c.out) (fun a=>?_);clear m K;try simp only[pU]
 have HE:Hid (af (k.alloc (.cells #[J j,.string S] 111)).drew k.heap.size 111 #[J j,.string S]):=(af.d k k.heap.size rfl 111 _).i;have T:Hid ((k.alloc (.cells #[J j,.string S] 111)).drew.heap.size=k.heap.size+1):=by simp[Hid]
 generalize (k.alloc (.cells #[J j,.string S] 111)).drew=w4 at c HE T a ⊢;refine te 10 fun K m=>?_;refine step_append_lies w4 rfl (.tmp 22) (.tmp 27) 92 rfl 0 111 i0 _ 2 24 Tryz.underlying92 b2 a3 a7 a2 rfl θ sv snt.length (ar snt) rfl (aQ C.out.f.d c.out) (aT k 0) 1 1 [J j,.string S] rfl rfl (IZ HE.out) (by intro u hu;simp only[yF,yU,or_false] at hu;rcases hu with rfl|rfl <;> rfl) ω (by simp[maxLen];omega) ω (oI _) (k.heap.size+1) T.out ?_;intro g b4 w5 O q Q a1;have nb:some b≠sv.ownBlock:=fun e=>C.out.f.o e.symm C.out.a θ rfl;have W:=yg C.out.a.f c.out.size;have V:Hid (w5.cell? (aT b 18)=some sv/\w5.cell? (aT w 2)=some (J j)):=by
  have h4:=HS.out _ c.out;have a5:=yg M.out c.out.size;have nx:some w.heap.size≠sv.ownBlock:=fun e=>by have:=R.out _ e.symm;omega
  exact⟨(q.cell_far ⟨b,18,none⟩ W nb).trans h4.1,(q.cell_far ⟨w.heap.size,2,none⟩ a5 nx).trans h4.2⟩
 have a9:Hid (sv.ownBlock=some g\/w.heap.size<=g):=Q.imp id fun e=>by have:=c.out.size;have:=G.out.size;omega
 have N:=ah (C.out.a7 c.out q (e:=(j,S)) O (Q.imp id (fun e=>by omega)));have b3:w5.frozen? (aT b 18)=false:=by
  rw[q.frozen_far ⟨b,18,none⟩ W nb];exact(C.out.a.c c.out C.out.a.f).b 18
 clear O q Q a1 a HE T c HS nb W;refine m.out _ _ (fun _=>V.out) (fun a=>?_);clear m K;try simp only[pU]
 have a:=a θ;refine te 11 fun K m=>?_;go_simp;refine m.out _ _ (fun _=>V.out) (fun a=>?_);clear m K;try simp only[pU]
 refine te 12 fun K m=>?_;go_simp;refine m.out _ _ (fun _=>V.out) (fun a=>?_);clear m K;try simp only[pU]
 have a:=a θ;refine te 13 fun K m=>?_;go_simp;refine m.out _ _ (fun h=>absurd rfl h) (fun _=>?_);clear m K;try simp only[pU]
 refine gl.done κ ?_ _;go_wp2_with fail
 go_end0
 refine⟨rfl,(cW.d G.out).c (N.out.1.e fun x _ hx=>.inl hx),_,fun g' a6=>by cases a6;exact a9.out,N.out.2.k fun x hx=>hx.elim .inl fun hx=>.inr ?_⟩;have:=G.out.size;omega
variable {row:List Int}
def PA.a2(p:PA w F b h kn l evs snt kb mb rbs es clk ev sv){r:Nat}(f:rbs[h.a]?=some r)(d:h.a<h.n):aw w w.heap.size (sT r h.n h.n) (kn.getD h.a []):=by
 obtain⟨i,a,c,e, -⟩:=p.m d;rw[f] at a;injection a with a;subst a;refine .inr ⟨r,0,h.n,by rw[e],c.f,fun j g=>?_⟩;rw[yS];exact c.a j _ (ie g)
def PA.a1(p:PA w F b h kn l evs snt kb mb rbs es clk ev sv):PA w (fun x=>F x/\x<w) b h kn l evs snt kb mb rbs es clk ev sv:=
 ⟨p.a,p.e,p.map,p.o,p.i,fun x c=>⟨⟨(p.d x c).1.d,fun g a=>⟨(p.d x c).1.c g a,(p.d x c).1.k a⟩⟩,(p.d x c).2⟩,⟨p.c.d,fun g a=>⟨p.c.c g a,p.c.k a⟩⟩,⟨p.f.d,fun g a=>⟨p.f.c g a,p.f.k a⟩⟩,⟨p.t,p.a.f⟩,⟨p.z,p.e.h.1⟩,⟨p.s,p.q⟩,fun r d=>⟨p.fr r d,p.e.h.2 r d⟩⟩
end
end Go.Proofs.YtoklolfaemhfnaaGreatDoor
section
namespace Go.Proofs
open Go.Shelf Go.RowKit Go.Lib Go.Sort
def Tryz.sortKeys_ren:Ren:=⟨fun|6=>198|15=>242|14=>241|28=>282|29=>283|20=>274|21=>275|22=>276|23=>277|24=>278|25=>279|26=>280|27=>281|46=>296|47=>297|48=>298|49=>299|50=>300|57=>303|n=>n,fun|22=>238|24=>186|25=>240|39=>195|53=>146|55=>143|46=>283|45=>282|50=>287|66=>294|70=>297|76=>302|77=>303|n=>n,fun n=>n⟩
theorem Tryz.sortKeys:SlLaysF0.n6 prog Tryz.sortKeys_ren:=⟨κ,⟨f198.name,θ,func198.trans (congrArg _ κ)⟩,⟨f241.name,θ,func241.trans (congrArg _ κ)⟩,func242.trans (congrArg _ κ),⟨f274.name,θ,func274.trans (congrArg _ κ)⟩,⟨f275.name,θ,func275.trans (congrArg _ κ)⟩,⟨f276.name,θ,func276.trans (congrArg _ κ)⟩,⟨f277.name,θ,func277.trans (congrArg _ κ)⟩,⟨f278.name,θ,func278.trans (congrArg _ κ)⟩,⟨f279.name,θ,func279.trans (congrArg _ κ)⟩,⟨f280.name,θ,func280.trans (congrArg _ κ)⟩,⟨f281.name,θ,func281.trans (congrArg _ κ)⟩,func282.trans (congrArg _ κ),func283.trans (congrArg _ κ),⟨f296.name,θ,func296.trans (congrArg _ κ)⟩,func297.trans (congrArg _ κ),func298.trans (congrArg _ κ),⟨f299.name,θ,func299.trans (congrArg _ κ)⟩,⟨f300.name,θ,func300.trans (congrArg _ κ)⟩,⟨f303.name,θ,func303.trans (congrArg _ κ)⟩,underlying0,isAgg0,sizeOf0,zeroValue0,underlying3,isAgg3,sizeOf3,zeroValue3,underlying4,isAgg4,sizeOf4,zeroValue4,underlying5,isAgg5,sizeOf5,zeroValue5,underlying9,isAgg9,sizeOf9,zeroValue9,underlying238,isAgg238,sizeOf238,zeroValue238,underlying240,isAgg240,sizeOf240,zeroValue240,underlying195,isAgg195,sizeOf195,zeroValue195,underlying282,isAgg282,sizeOf282,zeroValue282,underlying283,isAgg283,sizeOf283,zeroValue283,underlying287,isAgg287,sizeOf287,zeroValue287,underlying146,isAgg146,sizeOf146,zeroValue146,underlying143,isAgg143,sizeOf143,zeroValue143,underlying294,isAgg294,sizeOf294,zeroValue294,underlying297,isAgg297,sizeOf297,zeroValue297,underlying302,isAgg302,sizeOf302,zeroValue302,underlying303,isAgg303,sizeOf303,zeroValue303⟩
end Go.Proofs
namespace Go.Proofs.YtoklolfaemhfnaaGreatDoor
open Go.Shelf Go.RowKit Go.Lib Go.Sort
def pV(x:Int)(w:World):Calls prog 284 #[J x] w fun e a=>e=.returned (.bool false)/\a=w:=by
 go_enter Tryz.func284,Tryz.ntmps284
 go_wp2
 go_ret;exact⟨rfl,rfl⟩
def pF(x y:Int)(w:World):Calls prog 244 #[J x,J y] w fun e c=>e=.returned (J (Lib.compareInt x y))/\c=w:=by
 have d:x<y\/y<x\/(¬x<y/\¬y<x):=ω;rcases d with b|b|⟨b,f⟩
 ·have a:Hid (Lib.compareInt x y = -1):=by simp[Hid,Lib.compareInt,b]
  go_enter Tryz.func244,Tryz.ntmps244
  go_wp2_with (go_at_call 284;refine(pV _ _).mono ?_;rintro e c ⟨rfl,rfl⟩)
  go_ret;exact⟨dN a.out.symm,rfl⟩
 ·have g:¬x<y:=ω;have a:Hid (Lib.compareInt x y=1):=by simp[Hid,Lib.compareInt,b,g]
  go_enter Tryz.func244,Tryz.ntmps244
  go_wp2_with (go_at_call 284;refine(pV _ _).mono ?_;rintro e c ⟨rfl,rfl⟩)
  go_ret;exact⟨dN a.out.symm,rfl⟩
 ·have a:Hid (Lib.compareInt x y=0):=by simp[Hid,Lib.compareInt,b,f]
  go_enter Tryz.func244,Tryz.ntmps244
  go_wp2_with (go_at_call 284;refine(pV _ _).mono ?_;rintro e c ⟨rfl,rfl⟩)
  go_ret;exact⟨dN a.out.symm,rfl⟩
def K6(a b:Int)(g c:Nat)(w:World)(m:w.cell? (aT g 0)=some (J a))(n:w.cell? (aT g 1)=some (J b)):Calls prog 243 #[sT g 2 c] w fun e l=>e=.returned (J (if a=0 then b else a))/\l=w:=by
 by_cases f:a=0
 ·subst f;have k:Hid ((if 0=0 then b else 0)=b):=by simp[Hid]
  go_enter Tryz.func243,Tryz.ntmps243
  go_wp2_with fail
  go_loopw [8] (fun i j=>j=w/\(i=J 0\/i=J 1\/(i=J 2/\b=0))) (fun i _=>2 - (intOf i).toNat)
  case atStart=>exact⟨rfl,.inl rfl⟩
  case round=>
   obtain⟨rfl,rfl|rfl|⟨rfl,d⟩⟩:=hrel
   ·go_wp2_with fail
    exact⟨ς,by simp[intOf]⟩
   ·by_cases d:b=0
    ·subst d;go_wp2_with fail
     exact⟨ς,by simp[intOf]⟩
    ·have h:(b != 0)=true:=by rw[bne_iff_ne];exact d
     go_wp2_with fail
     go_ret;exact⟨dN k.out.symm,rfl⟩
   ·subst d;go_wp2_with fail
    go_ret;exact⟨dN k.out.symm,rfl⟩
 ·rw[if_neg f];have h:(a != 0)=true:=by rw[bne_iff_ne];exact f
  go_enter Tryz.func243,Tryz.ntmps243
  go_wp2_with fail
  go_loopw [8] (fun i j=>j=w/\i=J 0) (fun i _=>2 - (intOf i).toNat)
  case atStart=>exact⟨rfl,rfl⟩
  case round=>
   obtain⟨rfl,rfl⟩:=hrel;go_wp2_with fail
   go_ret;exact⟨rfl,rfl⟩
def iZ(x y:Int × Int):Int:=if Lib.compareInt x.1 y.1=0 then Lib.compareInt x.2 y.2 else Lib.compareInt x.1 y.1
def ja(x:Int × Int):List Value:=[J x.1,J x.2]
def pE(x y:Int × Int)(W:World):Calls prog 199 #[.agg #[J x.1,J x.2],.agg #[J y.1,J y.2]] W fun e s=>e=.returned (J (iZ x y))/\∃q l,s=grow (W.drewN q) l:=by
 obtain⟨d,b⟩:=x;obtain⟨c,f⟩:=y;unfold iZ;simp only;have j:=pF d c;have p:=pF b f;generalize Lib.compareInt d c=h at j ⊢;generalize Lib.compareInt b f=i at p ⊢;have B:=ah j;have w:=ah p;have G:=af.d W _ rfl 186 #[J d,J b];have m:=G.g (.cells #[J c,J f] 186);have A:=af.d (W.alloc (.cells #[J d,J b] 186)) (W.heap.size+1) ς 186 #[J c,J f];have t:=m.a 0 _ rfl;have u:=m.a 1 _ rfl;have v:=A.a 0 _ rfl;have r:=A.a 1 _ rfl;simp only[yf,yd,ye] at t u v r;clear j p G m A;obtain⟨F,n⟩:∃F,(if h=0 then i else h)=F:=⟨_,rfl⟩;rw[n];have C:=ah n;clear n;go_enter Tryz.func199,Tryz.ntmps199
 go_wp2_with fail
 refine wp_region_held_drew (S:=fun s=>s.cell? (aT W 0)=some (J d)/\s.cell? (aT W 1)=some (J b)/\s.cell? ⟨W.heap.size+1,0,none⟩=some (J c)/\s.cell? ⟨W.heap.size+1,1,none⟩=some (J f)) rfl ⟨t,u,v,r⟩ (fun a=>?_)
 (iterate 4 refine ψ ?_);refine wk 5 ?_;refine wk 6 ?_;refine wk 7 ?_;refine wk 8 ?_
 refine we 4 fun K g=>?_;go_simp;refine(B.out _).mono ?_;rintro e L ⟨rfl,rfl⟩;go_wp2_with fail
 refine g.out _ _ ⟨t,u,v,r⟩ (fun a=>?_);clear g K;try simp only[pU]
 refine we 9 fun K g=>?_;go_simp;refine(w.out _).mono ?_;rintro e L ⟨rfl,rfl⟩;go_wp2_with fail
 refine g.out _ _ ⟨t,u,v,r⟩ (fun a=>?_);clear g K;try simp only[pU]
 refine we 10 fun K g=>?_;go_simp;have z:=(af.d ((W.alloc (.cells #[J d,J b] 186)).alloc (.cells #[J c,J f] 186)) (W.heap.size+1+1) ς 3 #[J h,J i]).i;have D:=z.a 0 _ rfl;have E:=z.a 1 _ rfl;have o:=K6 h i _ 2 _ D E;rw[C.out] at o;have H:Hid (Calls prog 243 _ _ _):=o;clear o;have k:Hid ((((W.alloc (.cells #[J d,J b] 186)).alloc (.cells #[J c,J f] 186)).alloc (.cells #[J h,J i] 3)).drew.cell? (aT W 0)=some (J d)/\(((W.alloc (.cells #[J d,J b] 186)).alloc (.cells #[J c,J f] 186)).alloc (.cells #[J h,J i] 3)).drew.cell? (aT W 1)=some (J b)/\(((W.alloc (.cells #[J d,J b] 186)).alloc (.cells #[J c,J f] 186)).alloc (.cells #[J h,J i] 3)).drew.cell? ⟨W.heap.size+1,0,none⟩=some (J c)/\(((W.alloc (.cells #[J d,J b] 186)).alloc (.cells #[J c,J f] 186)).alloc (.cells #[J h,J i] 3)).drew.cell? ⟨W.heap.size+1,1,none⟩=some (J f)):=by
  refine⟨(I4 _ _ _ ?_).trans t,(I4 _ _ _ ?_).trans u,(I4 _ _ _ ?_).trans v,(I4 _ _ _ ?_).trans r⟩ <;> simp <;> omega
 have I:Hid (∃q l,(((W.alloc (.cells #[J d,J b] 186)).alloc (.cells #[J c,J f] 186)).alloc (.cells #[J h,J i] 3)).drew=grow (W.drewN q) l):=⟨1,_,by rw[alloc_eq_grow,alloc_eq_grow,alloc_eq_grow,grow_grow,grow_grow];rfl⟩;clear z D E t u v r;generalize (((W.alloc (.cells #[J d,J b] 186)).alloc (.cells #[J c,J f] 186)).alloc (.cells #[J h,J i] 3)).drew=M at H k I ⊢;refine g.out _ _ k.out (fun a=>?_);clear g K;try simp only[pU]
 refine we 11 fun K g=>?_;go_simp;refine H.out.mono ?_;rintro e L ⟨rfl,rfl⟩;go_wp2_with fail
 refine g.out _ _ k.out (fun a=>?_);clear g K;try simp only[pU]
 refine wk 12 ?_;refine wpAnyH_done κ ?_ _;go_wp2_with fail
 go_ret;exact⟨rfl,I.out⟩
def vE(b c a:Nat)(w:World):CmpLays prog 199 #[] ja 2 iZ b c a w:=fun _ _ _ _ x y=>pE x y _
def Am(x y:Int × Int):ltOf iZ x y=decide (x.1<y.1\/(x.1=y.1/\x.2<y.2)):=by
 unfold ltOf iZ Lib.compareInt;by_cases c:x.1<y.1
 ·simp[c]
 ·by_cases d:y.1<x.1
  ·have:¬x.1=y.1:=ω;simp[c,d,this]
  ·have b:x.1=y.1:=ω;by_cases a:x.2<y.2
   ·simp[b,a]
   ·by_cases e:y.2<x.2 <;> simp[b,a,e]
def IT:SWO (ltOf iZ) where
 irrefl x:=by rw[Am];simp
 trans x y z h1 h2:=by rw[Am,decide_eq_true_eq] at *;omega
 ntrans x y z h1 h2:=by rw[Am,decide_eq_false_iff_not] at *;omega
end Go.Proofs.YtoklolfaemhfnaaGreatDoor
end
namespace Go.Proofs.YtoklolfaemhfnaaGreatDoor
section
open Go.RowKit
open Go.ChangeMaps (setBlock)
variable {w w':World}{F:Nat->Prop}{b:Nat}{h:Hd}{kn:List (List Int)}{l:aL}{evs:List Ev}{snt:List bC}{kb mb:Nat}{rbs:List Nat}{es:Array MapEntry}{clk:Nat}{ev sv:Value}
def ia{w f d:World}{r:Nat}(c:Below w w f)(i:w.heap.size<=r)(a:f.grownBy d (some r)):Below w w d:=c.trans ⟨a.os,a.tape,a.output,a.size,fun k g=>a.block k (yg g c.size) (fun e=>by injection e with e;omega)⟩
end
section
open Go.Shelf Go.RowKit Go.Lib Go.Sort
open Go.ChangeMaps (setBlock)
variable {w:World}{kg:Nat}
def gm(w:World)(kg:Nat)(ks:List (Int × Int)):Prop:=∀i x,ks[i]?=some x->w.cell? ⟨kg,2 * i,none⟩=some (J x.1)/\w.cell? ⟨kg,2 * i+1,none⟩=some (J x.2)/\w.frozen? ⟨kg,2 * i,none⟩=false/\w.frozen? ⟨kg,2 * i+1,none⟩=false
def pS{a:List (Int × Int)}(h:gm w kg a):HoldsK ja 2 w kg 0 a.toArray:=by
 intro j d;rw[size_flatK,yJ] at d;rw[get_flatK _ _ _ _ (by simpa using d)];have b:j / 2<a.length:=ω;obtain⟨i,g,l,k⟩:=h (j / 2) _ (yh b);have e:a.toArray[j / 2]! = a[j / 2]:=by simp[b]
 rw[e,yS];rcases Nat.mod_two_eq_zero_or_one j with c|c
 ·have f:j=2 * (j / 2):=ω;rw[c];refine⟨?_,?_⟩
  ·show w.cell? _=some (J _);rw[<-i];congr 2
  ·rw[<-l];congr 2
 ·have f:j=2 * (j / 2)+1:=ω;rw[c];refine⟨?_,?_⟩
  ·show w.cell? _=some (J _);rw[<-g];congr 2
  ·rw[<-k];congr 2
def zi{d:Array (Int × Int)}(h:HoldsK ja 2 w kg 0 d):gm w kg d.toList:=by
 intro i x c;have f:i<d.size:=by have:=(ym.1 c).1;simpa using this
 have e:d[i]! = x:=by
  have:=(ym.1 c).2;rw[getElem!_pos d i f];simpa using this
 have b:=h (2 * i) (by simp;omega);have a:=h (2 * i+1) (by simp;omega);rw[get_flatK _ _ _ _ ω,yS] at b a;rw[show 2 * i / 2=i by omega,show 2 * i % 2=0 by omega,e] at b;rw[show (2 * i+1) / 2=i by omega,show (2 * i+1) % 2=1 by omega,e] at a;exact⟨b.1,a.1,b.2,a.2⟩
def om(w:World)(a m:Nat)(d:Array (Int × Int))(f:Array Obj):w.grownBy (sortWorldK ja 2 w a 0 m d f) (some a):=by
 refine⟨rfl,rfl,rfl,?_,fun k g c=>?_⟩
 ·unfold sortWorldK putRowK;simp[Sort.ahead]
 ·unfold sortWorldK putRowK;rw[heap_grow_old _ _ (by simpa[Sort.ahead] using g)];unfold Sort.putRow Sort.mapBlock;have b:k≠a:=fun e=>c (by rw[e]);show ((Sort.ahead w m).heap.modify a _)[k]?=_;rw[LI,if_neg (fun e=>b e.symm)];rfl
def wQ(w:World)(b f:Nat)(g:List (Int × Int))(r:gm w b g)(d:b<w)(u:g.length<=1000000) :
 Calls prog 198 #[sT b g.length f,.func (.func 199) #[] #[]] w fun e l=>e=.returned (.tuple #[])/\w.grownBy l (some b)/\∃c,c.Perm g/\gm l b c/\c.Pairwise fun x y=>ltOf iZ y x=false:=by
 have B:=enters_of Tryz.func199 κ rfl;have a:=AnyQ.slices_SortFunc Tryz.sortKeys 2 Tryz.isAgg186 Tryz.sizeOf186 ja (fun _=>rfl) (fun x v q=>by simp[ja] at q;rcases q with rfl|rfl <;> rfl) iZ IT 199 #[] b 0 f _ w B (vE b 0 _ w) (pS r) d (by simp;omega);change Calls _ 198 _ _ _ at a;simp only[yJ] at a;refine a.mono ?_;rintro e l ⟨rfl,m,n,t,s,k,rfl⟩;have o:=s.1;refine⟨rfl,om _ _ _ _ _,_,?_,zi (holdsK_sortWorldK ja 2 w b 0 n _ m t d (pS r) o),Lb.2 fun i j A p h=>?_⟩;rotate_left
 ·have:=k i j (oI _) h (by have z:=o;simp only[yJ] at z;have C:=p;simp only[AG] at C;omega);rw[getElem!_pos m j (by simpa using p),getElem!_pos m i (by simpa using A)] at this;simpa using this
 have:=s.2.2;rw[Array.extract_eq_self_of_le (by rw[o];simp),Array.extract_eq_self_of_le ς] at this;exact this
variable {w':World}{F:Nat->Prop}{b:Nat}{h:Hd}{kn:List (List Int)}{l:aL}{evs:List Ev}{snt:List bC}{kb mb:Nat}{rbs:List Nat}{es:Array MapEntry}{clk:Nat}{ev sv:Value}{seen:Array Nat}{vs rest:List MapEntry}
def qU{r s:Type}(f:r->s):∀{i e:List s},i.Perm e->∀{l:List r},l.map f=e->∃g:List r,g.Perm l/\g.map f=i:=by
 intro i e z;induction z with
 |nil=>intro l d;exact⟨[],by rw[List.map_eq_nil_iff.1 d],rfl⟩
 | @cons x i e _ t =>
   intro l d;match l,d with
   | a :: l, d =>
     rw[yN] at d;injection d with h1 h2;obtain⟨g,n,v⟩:=t h2;exact⟨a::g,n.cons a,by rw[yN,v,h1]⟩
 | @swap x y e =>
   intro l d;match l,d with
   | a :: c :: l, d =>
     rw[yN,yN] at d;injection d with h1 h2;injection h2 with h2 h3;exact⟨_,List.Perm.swap a c l,by rw[yN,yN,h1,h2,h3]⟩
 | trans _ _ p o =>
   intro l d;obtain⟨A,q,m⟩:=o d;obtain⟨u,j,k⟩:=p m;exact⟨u,j.trans q,k⟩
def Gj:(prog.info? 186).map (fun i=>(i.zero,i.size,i.bytes))=some (some (.agg #[J 0,J 0]),2,16):=κ
def Gl:(prog.info? 179).map (fun i=>(i.zero,i.size,i.bytes))=some (some (.agg #[J 0,J 0,sN,.string ⟨#[]⟩]),4,56):=κ
def aH(vs:List MapEntry):List (Int × Int):=vs.map fun e=>oh e.key
def bU(ks:List (Int × Int)):List Value:=ks.flatMap ja
def nP:∀{ks:List (Int × Int)}{i:Nat}{x:Int × Int},ks[i]?=some x->(bU ks)[2 * i]?=some (J x.1)/\(bU ks)[2 * i+1]?=some (J x.2)
 |[],i,x,h=>by cases h
 | y :: ks, 0, x, h => by
   simp only[AH,yA] at h;subst h;exact⟨rfl,rfl⟩
 | y :: ks, i + 1, x, h => by
   have:=nP (by simpa using h);have e:bU (y::ks)=[J y.1,J y.2]++bU ks:=rfl;rw[e,show 2 * (i+1)=2 * i+1+1 by omega];exact this
def zh{d g n:Nat}{k:List (Int × Int)}(h:w.ownsRow d 186 2 (sT g k.length n) k.length (bU k)):gm w g k/\d<=g/\g<w:=by
 have q:=h.cells rfl;have u:=h.lt g rfl;have f:∀j,(⟨g,0,none⟩:Addr).add j=(aT g j):=fun j=>by unfold Addr.add;split <;> simp_all
 obtain⟨c,e⟩:∃c,w.heap[g]?=some _:=by
  rcases h.2 with ⟨a, -⟩|⟨v,p,c,a, -,m, -⟩
  ·cases a
  ·injection a with a;injection a with a;injection a with a;subst a;exact⟨c,m⟩
 refine⟨fun i x s=>?_,u⟩;obtain⟨a,t⟩:=nP s;have r:=q _ _ a;have o:=q _ _ t;rw[f] at r o;exact⟨r,o,frozen_of_row w g _ c 186 e,frozen_of_row w g _ c 186 e⟩
structure gY (es:Array MapEntry) (seen:Array Nat) (vs rest:List MapEntry):Prop where
 a:(vs++rest).Perm es.toList
 out:∀e∈rest,seen.contains e.born=false
 f:∀e∈vs,seen.contains e.born=true
def gY.c(v:gY es seen vs rest)(q:(es.toList.map (·.born)).Nodup){e:MapEntry}(p:e∈es.toList)(n:seen.contains e.born=false):∃d,gY es (seen.push e.born) (vs++[e]) d:=by
 have i:=v.a.mem_iff.2 p;have k:e∈rest:=by
  rcases yz.1 i with a|a
  ·rw[v.f e a] at n;cases n
  ·exact a
 obtain⟨A,B,rfl⟩:=List.append_of_mem k;have o:(vs++[e]++(A++B)).Perm es.toList:=by
  refine List.Perm.trans ?_ v.a;rw[I3];refine List.Perm.append_left vs ?_;rw[List.singleton_append];exact List.perm_middle.symm
 have f:=(o.map _).nodup_iff.2 q;refine⟨A++B,o,fun g c=>?_,fun g c=>?_⟩
 ·have a:=v.out g (by rcases yz.1 c with h|h <;> simp[h]);have j:g.born≠e.born:=fun m=>by
   rw[y8,GZ] at f;exact f.2.2 e.born ς g.born (Hq c) m.symm
  rw[Array.contains_push,a];simp[j]
 ·rcases yz.1 c with a|a
  ·rw[Array.contains_push,v.f g a];simp
  ·rw[yu] at a;subst a;simp
def gY.d(v:gY es seen vs rest)(d:(leftOf es seen).size=0):vs.Perm es.toList:=by
 have c:rest=[]:=by
  apply List.eq_nil_iff_forall_not_mem.2;intro e a;have f:=v.a.mem_iff.1 (yz.2 (.inr a));have:e∈(leftOf es seen).toList:=by
   unfold leftOf;rw[Array.toList_filter,yM];exact⟨f,by rw[v.out e a];rfl⟩
  rw[Array.eq_empty_of_size_eq_zero d] at this;cases this
 have:=v.a;rw[c,IX] at this;exact this
def vU(a:dX es clk l):aH es.toList=l.map fun x=>(x.1.a,x.1.seq):=by
 unfold aH;have:=congrArg (List.map oh) a.key;rw[AD,AD] at this;exact this
def qM(a:List (Int × Int))(x:Int × Int):bU (a++[x])=bU a++[J x.1,J x.2]:=by simp[bU,ja]
def vl(xs l:aL):Prop:=xs.Perm l/\xs.Pairwise fun x y=>ltOf iZ (y.1.a,y.1.seq) (x.1.a,x.1.seq)=false
def fu(w:World)(M:Nat)(xs:aL)(k:Nat):Prop:=∃cur:Array Value,w.heap[M]?=some (.cells cur 179 (0,0))/\cur.size=4 * xs.length/\∀i x,i<k->xs[i]?=some x->cur[4 * i]?=some (J x.1.a)/\cur[4 * i+1]?=some (J x.1.seq)/\cur[4 * i+2]?=some x.2/\cur[4 * i+3]?=some (.string x.1.b)
def jQ(p:PA w F b h kn l evs snt kb mb rbs es clk ev sv)(hl:l.length<=100000) :
 Calls prog 166 #[pT b 0] w fun e w'=>Below w w w'/\∃M z,w.heap.size<=M/\vl z l/\e=.returned (sT M l.length l.length)/\fu w' M z l.length:=by
 obtain⟨i0,h4,m4,k8,p0⟩:=info_parts Gj;obtain⟨i1,p4,p3,n3,q3⟩:=info_parts Gl;have H:Hid (∀w',Below w w w'->w'.cell? (aT b 15)=some (.map (some mb))/\w'.heap[mb]?=some (.map es clk)):=fun w' hw=>⟨(p.a.c hw p.a.f).a 15 _ rfl,(hw.block mb p.q).trans p.map⟩;have V:=p.o.a;have b5:=p.o.b;have C:=p.o.born;have HK:=ah (vU p.o);have e8:Hid (∀e∈es.toList,∃v,e.key=.agg #[J (oh e.key).1,J (oh e.key).2]/\e.val=v):=fun e he=>by
  obtain⟨i,hi,rfl⟩:=y4 he;obtain⟨x, -,hk, -⟩:=p.o.at (yh hi);exact⟨_,by rw[hk];rfl,rfl⟩
 have a6:Hid (∀w' (x:Codec.Msg × Value),Below w w w'->x∈l->(Instr.lookup 156 (.map (some mb)) (.agg #[J x.1.a,J x.1.seq]) false).run prog w'=.ok (aU x.1 x.2) w'):=fun w' x hw hx=>mz w' x.1.a x.1.seq ((hw.block mb p.q).trans p.map) p.o p.i hx (by simp[gL]) false;have HT:=ah (fun x hx=>(p.d x hx).1.a);obtain⟨t,b4,n,B⟩:=run_make_own w _ 238 186 i0 _ 2 Tryz.underlying238 h4 m4 k8 .i64 .i64 l.length ν (by simp[maxLen];omega) (yb _);have A:Below w w t:=⟨B.os,B.tape,B.output,B.size,fun k hk=>B.block k hk (fun e=>by cases e)⟩;have p2:Hid (Below w w t):=A;obtain⟨c2,d2⟩:=H.out w (yi _ _);obtain⟨k6,a7⟩:=H.out t A;have a8:Hid (t.ownsRow w 186 2 (sT w 0 l.length) 0 []):=n;have m2:(Builtin.len_ #[156] 3 #[.map (some mb)]).run prog w=.ok (J l.length) w:=by
  have:=run_len_map (P:=prog) w 156 3 mb es clk κ d2;rw[V] at this;exact this
 clear p n B;go_enter Tryz.func166,Tryz.ntmps166
 go_wp2_with (at_range;refine eO _ rfl _ 156 186 179 rfl Tryz.underlying156 rfl a7 b5 C ?_;intro e2)
 go_frame
 have e7:Hid (w.heap.size<=t):=A.size;generalize k0:t.heap.size=Y at e2 e7 ⊢;have n2:Hid (cm (t.alloc (.mapIter (some mb) clk #[] clk)) mb Y es clk #[]):=e2;have n0:Hid (Below w w (t.alloc (.mapIter (some mb) clk #[] clk))):=A.alloc (by rw[k0];exact e7.out) _;have Z:Hid ((t.alloc (.mapIter (some mb) clk #[] clk)).ownsRow w 186 2 (sT w 0 l.length) 0 []):=a8.out.alloc _;clear e2 d2 a7 c2 k6 b4 m2 a8 A p2 k0;go_loopw [3] (fun v wr=>∃seen vs I g P,cm wr mb Y es clk seen/\Below w w wr/\gY es seen vs I/\v=sT g (aH vs).length P/\wr.ownsRow w 186 2 (sT g (aH vs).length P) (aH vs).length (bU (aH vs))) (fun _ wr=>eN wr mb Y)
 case atStart=>exact⟨#[],[],es.toList,w.heap.size,l.length,n2.out,n0.out,⟨List.Perm.refl _,fun e _=>ς,fun e he=>by cases he⟩,rfl,Z.out⟩
 case round=>
  obtain⟨seen,vs,I,g,P,hR,hB,hV,rfl,c7⟩:=hrel;have d7:=hR.b;have HB:Hid (Below w w wr):=hB;have HV:Hid (gY es seen vs I):=hV;have q:Hid (wr.ownsRow w 186 2 (sT g (aH vs).length P) (aH vs).length (bU (aH vs))):=c7;clear hB hV c7 n2 n0 Z;go_wp2_with (at_next;refine fB _ rfl _ rfl mb Y rfl hR ?_ ?_)
  ·intro h0;have n1:(leftOf es seen).size=0:=by simpa using h0
   have g7:=HV.out.d n1;have f8:(aH vs).Perm (l.map fun x=>(x.1.a,x.1.seq)):=by
    rw[<-HK.out];exact g7.map _
   have O:(aH vs).length=l.length:=by rw[f8.length_eq,yL]
   obtain⟨k7,m3,e3⟩:=zh q.out;have f9:Hid (w.heap.size<=g/\g<wr):=⟨m3,e3⟩;have h2:=wQ wr g P (aH vs) k7 e3 ω;have h7:Hid (Calls prog 198 #[sT g l.length P,.func (.func 199) #[] #[]] wr fun e w'=>e=.returned (.tuple #[])/\Below w w w'/\g<w'/\∃z:aL,vl z l/\gm w' g (z.map fun x=>(x.1.a,x.1.seq))):=by
    rw[Hid,<-O];refine h2.mono ?_;rintro e w' ⟨rfl,m1,q7,n5,p5,k4⟩;obtain⟨z,U,S⟩:=qU (fun x:Codec.Msg × Value=>(x.1.a,x.1.seq)) (n5.trans f8) rfl;exact⟨rfl,ia HB.out f9.out.1 m1,yg f9.out.2 m1.size,z,⟨U,List.pairwise_map.1 (by rw[S];exact k4)⟩,by rw[S];exact p5⟩
   clear h0 n1 g7 f8 k7 m3 e3 h2 q HV hR d7;rw[O];clear O;go_wp2_with fail
   refine h7.out.mono ?_;rintro e o ⟨rfl,b2,T,z,U,c8⟩;have m9:Hid (Below w w o/\g<o):=⟨b2,T⟩;have e9:Hid (vl z l):=U;have m5:Hid (z.length=l.length):=U.1.length_eq;have b4:=run_make (P:=prog) o 163 179 i1 _ Tryz.underlying163 p4 p3 .i64 .i64 (l.length:Int) (l.length:Int) ω (Ld _) ν ω;rw[CM,n3] at b4;have e5:Hid (gm (o.alloc (.cells (madeCells (Value.agg #[J 0,J 0,sN,.string ⟨#[]⟩]).cells (l.length * 4)) 179)) g (z.map fun x=>(x.1.a,x.1.seq))):=fun i x hx=>by
    obtain⟨a1,a2,a3,a4⟩:=c8 i x hx;exact⟨(I4 _ _ _ T).trans a1,(I4 _ _ _ T).trans a2,(G4 (a:=⟨g,2 * i,none⟩) (yQ _ _ _ T)).trans a3,(G4 (a:=⟨g,2 * i+1,none⟩) (yQ _ _ _ T)).trans a4⟩
   have c5:Hid (fu (o.alloc (.cells (madeCells (Value.agg #[J 0,J 0,sN,.string ⟨#[]⟩]).cells (l.length * 4)) 179)) o.heap.size z 0):=⟨_,heap_alloc_new o _,by rw[size_madeCells,U.1.length_eq,Nat.mul_comm],fun i x hi=>absurd hi ω⟩;have f4:Hid (Below w w (o.alloc (.cells (madeCells (Value.agg #[J 0,J 0,sN,.string ⟨#[]⟩]).cells (l.length * 4)) 179))):=b2.alloc b2.size _;have g9:Hid (o.heap.size<(o.alloc (.cells (madeCells (Value.agg #[J 0,J 0,sN,.string ⟨#[]⟩]).cells (l.length * 4)) 179)).heap.size):=by simp[Hid]
   have f7:Hid (w.heap.size<=o):=b2.size;clear b2 T U c8 h7 e8 HK b5 C V;generalize o.alloc (.cells (madeCells (Value.agg #[J 0,J 0,sN,.string ⟨#[]⟩]).cells (l.length * 4)) 179)=w4 at b4 e5 c5 f4 g9;go_wp2_with fail
   have k9:Hid (g≠o.heap.size):=by have:=m9.out.2;simp only[Hid];omega
   generalize o.heap.size=M at c5 g9 k9 f7 ⊢;clear b4 m9 f9;go_loopw [34] (fun i wr=>∃k:Nat,k<=l.length/\i=J k/\gm wr g (z.map fun x=>(x.1.a,x.1.seq))/\fu wr M z k/\Below w w wr) (fun i _=>l.length - (intOf i).toNat)
   case atStart=>exact⟨0,ω,rfl,e5.out,c5.out,f4.out⟩
   case round=>
    obtain⟨k,hk,rfl,c3,f6,hB⟩:=hrel;by_cases n9:k<l.length
    ·obtain⟨N,m7⟩:∃N,z[k]?=some N:=⟨_,yh (by rw[m5.out];exact n9)⟩;have S:N∈l:=e9.out.1.mem_iff.1 (yy m7);obtain⟨q0,q1, -, -⟩:=c3 k (N.1.a,N.1.seq) ν;obtain⟨ao,tn,tc,m0⟩:=HT.out _ S;have HY:Hid (∀w',Below w w w'->(Instr.lookup 156 (.map (some mb)) (.agg #[J N.1.a,J N.1.seq]) false).run prog w'=.ok (.agg #[J N.1.a,J N.1.seq,.slice ao tn tc,.string N.1.b]) w'):=fun w' hw=>by
      have:=a6.out w' N hw S;rw[m0] at this;exact this
     obtain⟨cur,m,h8,n7⟩:=f6;have n8:M<wr:=(yk.1 m).1;have h5:cur.size=4 * l.length:=by rw[h8,m5.out]
     have s:Hid (∀w',w'.heap[M]?=some (.cells ((((cur.setIfInBounds (k * 4) (J N.1.a)).setIfInBounds (k * 4+1) (J N.1.seq)).setIfInBounds (k * 4+2) (.slice ao tn tc)).setIfInBounds (k * 4+3) (.string N.1.b)) 179 (0,0))->fu w' M z (k+1)):=fun w' hw=>by
      refine⟨_,hw,ν,fun i x hi hx=>?_⟩;simp only[LK,Array.size_setIfInBounds];rcases Kq.1 hi with hi|rfl
      ·grind
      grind
     have a9:Hid (gm wr g (z.map fun x=>(x.1.a,x.1.seq))/\g<wr):=⟨c3,yI wr _ q0⟩;have HB:Hid (Below w w wr):=hB;have Q:Hid (wr.heap[M]?=some (.cells cur 179 (0,0))/\k * 4+3<cur.size):=⟨m,ω⟩;have p9:(k:Int)<(l.length:Int):=ω;have q2:(0:Int)<=(k:Int):=ω;clear c3 hB m h8 h5 n7 m7 S m0 e9 a6 HT c5 e5 f4 n8;simp only[show 2 * k=k * 2 by omega] at q0 q1;generalize N.1.a=L at q0 HY s;generalize N.1.seq=G at q1 HY s;generalize N.1.b=d9 at HY s;go_wp2_with fail
     have b8:Hid (Below w w (wr.alloc (.cells #[J L,J G] 186))):=HB.out.alloc HB.out.size _;have hX:=af.d wr wr.heap.size rfl 186 #[J L,J G];have d0:=hX.a 0 _ rfl;have d1:=hX.a 1 _ rfl;simp only[yf,yd,ye] at d0 d1;have r:Hid (af (wr.alloc (.cells #[J L,J G] 186)) M 179 cur):=(yQ _ _ _ (yk.1 Q.out.1).1).trans Q.out.1;have e6:Hid (∀w',ej M (wr.alloc (.cells #[J L,J G] 186)) w'->gm w' g (z.map fun x=>(x.1.a,x.1.seq))):=fun w' hw i x hx=>by
      obtain⟨a1,a2,a3,a4⟩:=a9.out.1 i x hx;have b6:w'.heap[g]?=wr.heap[g]?:=(hw.block g k9.out).trans (yQ _ _ _ a9.out.2);exact⟨(yq (a:=⟨g,2 * i,none⟩) b6).trans a1,(yq (a:=⟨g,2 * i+1,none⟩) b6).trans a2,(G4 (a:=⟨g,2 * i,none⟩) b6).trans a3,(G4 (a:=⟨g,2 * i+1,none⟩) b6).trans a4⟩
     have W:=HY.out _ b8.out.drew;have c2:=(H.out _ b8.out).1;have f0:=r.out.b (k * 4);have f1:=r.out.b (k * 4+1);have f2:=r.out.b (k * 4+2);have f3:=r.out.b (k * 4+3);have n6:=Q.out.2;have g0:=r.out.a (k * 4) cur[k * 4] (yl ω);have g1:=r.out.a (k * 4+1) cur[k * 4+1] (yl ω);have g2:=r.out.a (k * 4+2) cur[k * 4+2] (yl ω);have g3:=r.out.a (k * 4+3) cur[k * 4+3] (yl ω);generalize cur[k * 4]=q9 at g0;generalize cur[k * 4+1]=q5 at g1;generalize cur[k * 4+2]=r0 at g2;generalize cur[k * 4+3]=q8 at g3;clear hX q0 q1 HY H HB a9 Q n6;generalize wr.alloc (.cells #[J L,J G] 186)=w5 at b8 r e6 W c2 f0 f1 f2 f3 g0 g1 g2 g3 d0 d1 ⊢;refine gl.b (fun w'=>w'=w5.drew) 9 rfl rfl (fun f5=>?_)
     (iterate 9 refine χ ?_)
     refine te 9 fun K hK=>?_;go_simp;refine hK.out _ _ (fun h=>absurd rfl h) (fun _=>?_);clear hK K;try simp only[pU]
     refine gl.done κ ?_ _;have e1:ej M w5 ((((w5.setCell ⟨M,k * 4,none⟩ (J L)).setCell ⟨M,k * 4+1,none⟩ (J G)).setCell ⟨M,k * 4+2,none⟩ (.slice ao tn tc)).setCell ⟨M,k * 4+3,none⟩ (.string d9)):=((((ej.d M w5).a _ _).a _ _).a _ _).a _ _;have h9:=(((r.out.e (k * 4) (J L)).e (k * 4+1) (J G)).e (k * 4+2) (.slice ao tn tc)).e (k * 4+3) (.string d9);have c4:Hid (gm _ g (z.map fun x=>(x.1.a,x.1.seq))/\fu _ M z (k+1)/\Below w w _):=⟨e6.out _ e1,s.out _ h9,b8.out.trans (e1.c f7.out)⟩;clear e1 h9 e6 r s W c2 f0 f1 f2 f3 g0 g1 g2 g3 d0 d1 f5;generalize ((((w5.setCell ⟨M,k * 4,none⟩ (J L)).setCell ⟨M,k * 4+1,none⟩ (J G)).setCell ⟨M,k * 4+2,none⟩ (.slice ao tn tc)).setCell ⟨M,k * 4+3,none⟩ (.string d9))=w6 at c4 ⊢;go_wp2_with fail
     exact⟨⟨k+1,ω,by go_num,c4.out.1,c4.out.2.1,c4.out.2.2.drew⟩,by simp[intOf];omega⟩
    ·have q4:¬(k:Int)<(l.length:Int):=ω;have O:k=l.length:=ω;have a5:Hid (Below w w wr/\∃M' c1,w.heap.size<=M'/\vl c1 l/\Ending.returned (sT M l.length l.length)=.returned (sT M' l.length l.length)/\fu wr M' c1 l.length):=⟨hB,M,z,f7.out,e9.out,rfl,by rw[<-O];exact f6⟩;clear c3 f6 hB;go_wp2_with fail
     go_ret;obtain⟨a0,M',c1,a1,a2,a3,a4⟩:=a5.out;exact⟨a0,M',a1,c1,a2,a3,a4⟩
  ·intro e t he m6 h1 e4 b7 g5;have b9:e∈es.toList:=by simpa using he
   have b0:seen.contains e.born=false:=by simpa using m6
   clear he m6;obtain⟨v,hk,hv⟩:=e8.out e b9;rw[hk,hv] at g5 ⊢;obtain⟨X,k5⟩:=HV.out.c C b9 b0;have d4:Hid (gY es (seen.push e.born) (vs++[e]) X):=k5;have e0:aH (vs++[e])=aH vs++[oh e.key]:=by simp[aH]
   obtain⟨cur,m⟩:∃cur,wr.heap[g]?=some (.cells cur 186 (0,0)):=by
    rcases q.out.2 with ⟨h0, -⟩|⟨g',y,cur,h0, -,q6, -⟩
    ·cases h0
    grind
   have b1:g≠Y:=fun e=>by rw[e,hR.d] at m;grind
   have c6:g≠mb:=cq m hR.map;have c9:g<wr:=(yk.1 m).1;have d5:t.heap[g]?=some (.cells cur 186 (0,0)):=(e4.block g c9 (fun e=>b1 ν)).trans m;have n:t.ownsRow w 186 2 (sT g (aH vs).length P) (aH vs).length (bU (aH vs)):=aj q.out fun g' p1=>by
    have:g'=g:=by simpa[Value.ownBlock] using p1.symm
    grind
   have A:Below w w t:=ia HB.out e7.out e4;have HL:Hid ((aH vs).length<=100000):=by
    have:=d4.out.a.length_eq;simp only[Hid,aH,yL];simp only[yC] at this;rw[show es.toList.length=es.size from AG,V] at this;omega
   have k3:Hid ((leftOf es (seen.push e.born)).size<eN wr mb Y):=by rw[Hid,d7];exact iI b9 b0
   generalize oh e.key=kk at g5 e0 ⊢;obtain⟨E,D⟩:=kk;have c0:Hid (aH (vs++[e])=aH vs++[(E,D)]):=e0;generalize n4:aH vs=ks at q n c0 HL ⊢;have d6:Below t t ((t.alloc (.cells #[J E,J D] 186)).alloc (.cells #[J E,J D] 186)):=((yi _ _).alloc (yb _) _).alloc ς _;have h6:Hid (((t.alloc (.cells #[J E,J D] 186)).alloc (.cells #[J E,J D] 186)).ownsRow w 186 2 (sT g ks.length P) ks.length (bU ks)):=(n.alloc _).alloc _;have m8:Hid (af ((t.alloc (.cells #[J E,J D] 186)).alloc (.cells #[J E,J D] 186)) (wr.heap.size+1) 186 #[J E,J D]):=af.d _ _ (by simp[b7]) 186 _;have d0:=((af.d t wr.heap.size b7 186 #[J E,J D])).a 0 _ rfl;have d1:=((af.d t wr.heap.size b7 186 #[J E,J D])).a 1 _ rfl;simp only[yf,yd,ye] at d0 d1;have a5:Hid (∀o g' y,o.ownsRow w 186 2 (sT g' (ks.length+1) y) (ks.length+1) (bU ks++[J E,J D])->((t.alloc (.cells #[J E,J D] 186)).alloc (.cells #[J E,J D] 186)).grownBy o (some g)->(∃seen vs I g8 b3,cm o mb Y es clk seen/\Below w w o/\gY es seen vs I/\Value.slice (some ⟨g',0,none⟩) (ks.length+1) y=sT g8 (aH vs).length b3/\o.ownsRow w 186 2 (sT g8 (aH vs).length b3) (aH vs).length (bU (aH vs)))/\eN o mb Y<eN wr mb Y):=fun o g' y ho hg=>by
    have R:=h1.c d6;have g6:cm o mb Y es clk (seen.push e.born):=⟨(hg.block mb (yk.1 R.map).1 (fun e=>c6 ν)).trans R.map,(hg.block Y (yk.1 R.d).1 (fun e=>b1 ν)).trans R.d,R.f,R.born⟩;have O:(aH (vs++[e])).length=ks.length+1:=by rw[c0.out];simp
    refine⟨⟨_,vs++[e],X,g',y,g6,?_,d4.out,by rw[O],?_⟩,?_⟩
    ·exact ia (A.trans (d6.mono A.size)) (q.out.lt g rfl).1 hg
    ·rw[O,c0.out,qM];exact ho
    ·rw[g6.b];exact k3.out
   have d3:Hid (ks.length+1<=maxLen/\(ks.length+1) * 16<=140737488355328):=by have:=HL.out;simp only[Hid,maxLen];omega
   have h3:Hid (w.heap.size<=((t.alloc (.cells #[J E,J D] 186)).alloc (.cells #[J E,J D] 186)).heap.size):=by have:=A.size;simp only[Hid,World.size_alloc];omega
   have p8:Hid (((t.alloc (.cells #[J E,J D] 186)).alloc (.cells #[J E,J D] 186)).heap.size=wr.heap.size+1+1):=by simp[Hid,b7]
   clear k5 e0 m b1 c6 c9 d5 n A hR h1 e4 d7 HV q k3 d6 b9 b0 hk hv d4 c0 e8 HK C b5 n4 H a6 HT;go_wp2_with (at_builtin;refine wpList_append_lies _ rfl (.tmp 23) (.tmp 25) 238 rfl w.heap.size 186 i0 _ 2 16 Tryz.underlying238 h4 m4 k8 p0 rfl θ _ _ (bU ks) rfl h6.out ⟨wr.heap.size+1,0,none⟩ 1 1 [J E,J D] rfl rfl (IZ m8.out) (by intro u hu;simp only[yF,yU,or_false] at hu;rcases hu with rfl|rfl <;> rfl) ω d3.out.1 d3.out.2 h3.out _ rfl ?_;intro g' y o d8 g4 p6 p7)
   exact a5.out o g' y d8 g4
end
section
open Go.RowKit
open Go.ChangeMaps (setBlock)
variable {w w':World}{F:Nat->Prop}{b:Nat}{h:Hd}{kn:List (List Int)}{l:aL}{evs:List Ev}{snt:List bC}{kb mb:Nat}{rbs:List Nat}{es:Array MapEntry}{clk:Nat}{ev sv:Value}
def bD(set:Int)(n:Nat):List Nat:=(List.range n).filter (jc set)
def mB(a:Int)(k:Nat):bD a (k+1)=if jc a k=true then bD a k++[k] else bD a k:=by
 unfold bD;rw[List.range_succ,La];cases c:jc a k <;> simp[c]
def cz(l:List Nat):List Value:=l.map fun (q:Nat)=>Value.int .i64 (q:Int)
def zf:(prog.info? 3).map (fun i=>(i.zero,i.size,i.bytes))=some (some (J 0),1,8):=κ
def Gp(p:PA w F b h kn l evs snt kb mb rbs es clk ev sv)(Y:h.n<=6)(a:Int) :
 Calls prog 164 #[pT b 0,J a] w fun e L=>∃v,e=.returned v/\L.ownsRow w 3 1 v (bD a h.n).length (cz (bD a h.n))/\Below w w L:=by
 obtain⟨Q,H,D,I,A⟩:=info_parts zf;have W:=p.a.a 1 _ rfl;simp only[Hd.c,yf,yd,ye] at W;clear p;go_enter Tryz.func164,Tryz.ntmps164
 go_wp2_with fail
 go_loopw [5,11] (fun v i wr=>∃k:Nat,k<=h.n/\i=J k/\wr.ownsRow _ 3 1 v (bD a k).length (cz (bD a k))/\Below w w wr) (fun _ i _=>h.n - (intOf i).toNat)
 case atStart=>exact⟨0,ω,rfl,(by have:=y9 w w.heap.size 3 1;simpa[bD,cz] using this),yi _ _⟩
 case round=>
  obtain⟨k,Z,rfl,o,K⟩:=hrel;have c:=ah o;have r:=ah K;clear o K;obtain⟨M,P,T⟩:=bG c.out;subst T;by_cases S:k<h.n
  ·have N:(k:Int)<(h.n:Int):=ω;have V:Hid ((bD a k).length<=6):=by
    have:(bD a k).length<=(List.range k).length:=G3 _ _;simp only[Hid];simp at this;omega
   cases z:jc a k with
   | false =>
     have B:Hid (bD a (k+1)=bD a k):=by rw[Hid,mB,z];rfl
     go_wp2_with (go_at_call 173;refine(gE _ _ _ ω).mono ?_;rintro e X ⟨rfl,rfl⟩;rw[z])
     exact⟨⟨k+1,ω,by go_num,by rw[B.out];exact c.out,r.out⟩,by simp[intOf];omega⟩
   | true =>
     have B:Hid (bD a (k+1)=bD a k++[k]):=by rw[Hid,mB,z];rfl
     have q:Hid ((wr.alloc (.cells #[J k] 3)).ownsRow w 3 1 (.slice M (bD a k).length P) (bD a k).length (cz (bD a k))):=c.out.alloc _;have y:Hid (af (wr.alloc (.cells #[J k] 3)) wr.heap.size 3 #[J k]):=af.d wr wr.heap.size rfl 3 _;have g:Hid ((bD a k).length+1<=maxLen/\((bD a k).length+1) * 8<=140737488355328):=by have:=V.out;simp only[Hid,maxLen];omega
     have m:Hid (w.heap.size<=(wr.alloc (.cells #[J k] 3)).heap.size):=by have:=r.out.size;simp only[Hid,World.size_alloc];omega
     have E:Hid (∀t,(wr.alloc (.cells #[J k] 3)).grownBy t (Value.slice M (bD a k).length P).ownBlock->Below w w t):=fun t x=>by
      have C:Below w w (wr.alloc (.cells #[J k] 3)):=r.out.alloc r.out.size _;exact C.trans ⟨x.os,x.tape,x.output,x.size,fun j R=>x.block j (yg R m.out) (fun e=>by have:=(c.out.lt j e.symm).1;omega)⟩
     go_wp2_with (first|(go_at_call 173;refine(gE _ _ _ ω).mono ?_;rintro e X ⟨rfl,rfl⟩;rw[z])|(at_builtin;refine wpList_append_own_at _ rfl (.tmp 17) (.tmp 19) 69 rfl w.heap.size 3 Q _ 1 8 Tryz.underlying69 H D I A rfl θ _ _ (cz (bD a k)) rfl q.out ⟨_,0,none⟩ 1 1 [J k] rfl rfl (IZ y.out) (by intro u O;simp only[yF,yU,or_false] at O;rcases O with rfl;rfl) g.out.1 g.out.2 m.out ?_;intro v' t d s _ _))
     exact⟨⟨k+1,ω,by go_num,(by rw[B.out];simp only[cz,y8,yC,yN,Cx,yx,yD] at d ⊢;exact d),E.out t s⟩,by simp[intOf];omega⟩
  ·have U:¬(k:Int)<(h.n:Int):=ω;have G:k=h.n:=ω;go_wp2_with fail
   go_ret;subst G;exact⟨_,rfl,c.out,r.out⟩



variable {n j:Nat}{ms:List Codec.Msg}{out:List Codec.Frame}{qs:List Nat}

variable {f:Codec.Frame}

