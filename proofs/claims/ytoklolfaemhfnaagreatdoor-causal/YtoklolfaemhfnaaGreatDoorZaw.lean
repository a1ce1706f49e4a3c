import Derived.Test.YtoklolfaemhfnaaGreatDoorZav
set_option maxRecDepth 100000
set_option maxHeartbeats 0
set_option linter.defProp false
open Go.Proofs.Tryz (prog)
namespace Go.Proofs.YtoklolfaemhfnaaGreatDoor
section
open Go.RowKit
open Md (PS Vote Bal Lft Wf MsgW Sends)
variable {w w':World}{F:Nat->Prop}{b:Nat}{S:PS}{o:Pl}
def Gg:(prog.info? 237).map (fun i=>(i.zero,i.size,i.bytes))=some (some (.agg #[sN,J 0,J 0,sN]),4,64):=κ
def kL:∀{L:List (List Int × Vote)}{vs:List (Value × Value)},vs.length=L.length->∀(e:List Int × Vote) (v:Value × Value),bF (L++[e]) (vs++[v])=bF L vs++[v.1,J e.2.b,J e.2.m,v.2]
 |[],[],_,e,v=>by simp[bF]
 | a :: L, u :: vs, h, e, v => by
   have:=kL (by simpa using h) e v;simp only[Ft,bF,this];simp
 |[],_::_,h,_,_=>by simp at h
 |_::_,[],h,_,_=>by simp at h
def AA(p:PP w F b S o){x:Nat}{B:Bal}(a3:o.c=some x)(hL:S.d=some B){q:Nat}(hq:q<6)(Z:Md.bj B.c)(c8:B.i.length<=1000)(a:List Int × Vote){rv cv:Value}(hr:aE w (o.R F b) rv a.1)(hc:aE w (o.R F b) cv a.2.a) :
 Calls prog 194 #[pT x 0,J q,.agg #[rv,J a.2.b,J a.2.m,cv]] w fun e z=>e=.returned (.tuple #[])/\∃a5,To w F b o z { S with d:=some (B.f q a) } { o with e:=a5,a:=o.a++[(rv,cv)] }:=by
 obtain⟨m,r,n,rfl⟩:=hr.a;obtain⟨j,l,s,rfl⟩:=hc.a;obtain⟨i0,c1,c3,b8,b6⟩:=info_parts Gg;have L:=oE hq;have HV:Hid (bits .or .i64 B.c (IntKind.i64.wrap (2 ^ q))=(B.f q a).c):=by
  have f:=L.1;rw[show min q 64=q by omega] at f;rw[Hid,f,(cK Z L.2).2.2.1];rfl
 have E:=p.f a3 hL;have V:Below w w (w.alloc (.cells #[.slice m r n,J a.2.b,J a.2.m,.slice j l s] 237)):=(Below.refl _ _).alloc (yb _) _;have b2:=af.d w _ rfl 237 #[.slice m r n,J a.2.b,J a.2.m,.slice j l s];have a8:=ah E.c.f;have P:=ah p;have HR:=ah hr;have HC:=ah hc;have c7:=ah E;have a6:=ah V;have a9:=ah b2;have c4:=(V.cell E.c.f).trans (E.c.a 4 _ rfl);simp only[bu,yf,yd,ye] at c4;have f4:=(E.c.c V E.c.f).b 4;have d0:0<=q:=ω;have c5:Hid ((w.alloc (.cells #[.slice m r n,J a.2.b,J a.2.m,.slice j l s] 237)).heap.size=w.heap.size+1):=by simp[Hid]
 have D:=ah a3;have HL:=ah hL;clear p E hr hc V b2 Z a3 hL L;go_enter Tryz.func194,Tryz.ntmps194
 go_wp2_with fail
 refine gl.b (fun z=>z.cell? (aT x 4)=some _) 9 rfl c4 (fun c=>?_)
 (iterate 7 refine χ ?_)
 refine te 7 fun K k=>?_;go_simp;refine k.out _ _ (fun _=>c4) (fun c=>?_);clear k K;try simp only[pU]
 have c:=c θ;refine tk 8 ?_;refine te 9 fun K k=>?_;go_simp;refine k.out _ _ (fun h=>absurd rfl h) (fun _=>?_);clear k K;try simp only[pU]
 refine gl.done κ ?_ _;rw[HV.out];have Q:Hid (To w F b o ((w.alloc (.cells #[.slice m r n,J a.2.b,J a.2.m,.slice j l s] 237)).setCell ⟨x,4,none⟩ (J (B.f q a).c)).drew { S with d:=some { B with c:=(B.f q a).c } } o):=by
  have p0:=P.out.c a6.out;have I:=p0.f D.out HL.out;have b9:∀g,o.e.ownBlock=some g->g≠x:=fun g hg e=>by
   obtain⟨c2,f⟩:=kr I.d hg;have A:_=_:=I.c;rw[<-e,f] at A;cases A
  have f:=p0.m D.out HL.out (B':={ B with c:=(B.f q a).c }) (av':=o.e) (avs':=o.a) ((cW.a 4 (J (B.f q a).c)).e fun y _ hy=>.inl hy) (I.c.e 4 _) I.f (aj I.d fun g hg=>Below.heap_setCell _ _ _ _ (b9 g hg)) I.e fun _ h=>.inl h;exact((P.out.d a6.out).a f).a (f.c.d (Below.refl _ _).drew)
 have W:Hid (af ((w.alloc (.cells #[.slice m r n,J a.2.b,J a.2.m,.slice j l s] 237)).setCell ⟨x,4,none⟩ (J (B.f q a).c)).drew w.heap.size 237 #[.slice m r n,J a.2.b,J a.2.m,.slice j l s]):=(Below.heap_setCell _ _ _ _ (by have:=a8.out;show w.heap.size≠x;omega)).trans a9.out;have a7:Hid (((w.alloc (.cells #[.slice m r n,J a.2.b,J a.2.m,.slice j l s] 237)).setCell ⟨x,4,none⟩ (J (B.f q a).c)).drew.heap.size=w.heap.size+1):=by simp[Hid]
 clear c c4 f4 a9 c5 a6 HV;generalize ((w.alloc (.cells #[.slice m r n,J a.2.b,J a.2.m,.slice j l s] 237)).setCell ⟨x,4,none⟩ (J (B.f q a).c)).drew=G at Q W a7 ⊢;have a2:Hid (fD G (o.R F b) { B with c:=(B.f q a).c } x o.e o.a):=Q.out.c.f D.out rfl;have X:Hid (∀z,Below G G z->z.cell? (aT x 6)=some o.e/\z.cell? (aT w 0)=some (.slice m r n)/\z.cell? (aT w 1)=some (J a.2.b)/\z.cell? (aT w 2)=some (J a.2.m)/\z.cell? (aT w 3)=some (.slice j l s)):=fun z hw=>by
  have f:=a2.out.c.c hw a2.out.c.f;have A:=W.out.c hw W.out.f;exact⟨f.a 6 _ rfl,A.a 0 _ rfl,A.a 1 _ rfl,A.a 2 _ rfl,A.a 3 _ rfl⟩
 go_wp2_with fail
 refine gl.b (fun z=>z.cell? (aT x 6)=some o.e/\z.cell? (aT w 0)=some (.slice m r n)/\z.cell? (aT w 1)=some (J a.2.b)/\z.cell? (aT w 2)=some (J a.2.m)/\z.cell? (aT w 3)=some (.slice j l s)) 10 rfl (X.out _ (Below.refl _ _).drew) (fun c=>?_)
 (iterate 6 refine χ ?_)
 refine te 6 fun K k=>?_;go_simp;have C:Hid (Below G G (G.alloc (.cells #[.slice m r n,J a.2.b,J a.2.m,.slice j l s] 237)).drew):=((Below.refl _ _).alloc (yb _) _).drew;have HE:Hid (af (G.alloc (.cells #[.slice m r n,J a.2.b,J a.2.m,.slice j l s] 237)).drew G.heap.size 237 #[.slice m r n,J a.2.b,J a.2.m,.slice j l s]):=(af.d G G.heap.size rfl 237 _).i;have H:Hid ((G.alloc (.cells #[.slice m r n,J a.2.b,J a.2.m,.slice j l s] 237)).drew.heap.size=G.heap.size+1):=by simp[Hid]
 refine k.out _ _ (fun _=>X.out _ C.out) (fun c=>?_);clear k K;try simp only[pU]
 have c:=c θ;generalize (G.alloc (.cells #[.slice m r n,J a.2.b,J a.2.m,.slice j l s] 237)).drew=Y at C HE H c ⊢;have P4:Hid (PP Y F b { S with d:=some { B with c:=(B.f q a).c } } o):=Q.out.c.c C.out;have t:Hid (fD Y (o.R F b) { B with c:=(B.f q a).c } x o.e o.a):=P4.out.f D.out rfl;have b3:Hid (aE Y (o.R F b) (.slice m r n) a.1):=(HR.out.f Q.out.d).f (Q.out.c.d C.out).d;have b0:Hid (aE Y (o.R F b) (.slice j l s) a.2.a):=(HC.out.f Q.out.d).f (Q.out.c.d C.out).d;refine te 7 fun K k=>?_;refine step_append_lies Y rfl (.tmp 19) (.tmp 21) 232 rfl 0 237 i0 _ 4 64 Tryz.underlying232 c1 c3 b8 b6 rfl θ o.e B.i.length (bF B.i o.a) rfl t.out.d ⟨G.heap.size,0,none⟩ 1 1 [.slice m r n,J a.2.b,J a.2.m,.slice j l s] rfl rfl (World.news_of_block HE.out) (by intro u hu;simp only[yF,yU,or_false] at hu;rcases hu with rfl|rfl|rfl|rfl <;> rfl) ω (by simp[maxLen];omega) ω (oI _) (G.heap.size+1) H.out ?_;intro g M T a0 d a1 b5;have nx:some x≠o.e.ownBlock:=fun e=>by
  obtain⟨c2,f⟩:=kr t.out.d e.symm;have A:_=_:=t.out.c;rw[f] at A;cases A
 have U:x<Y:=t.out.c.f;have n0:some w.heap.size≠o.e.ownBlock:=fun e=>by
  have:=P.out.n (.inr (.inl ⟨by rw[D.out];rfl,e.symm⟩));omega
 have O:w.heap.size<Y:=by have:=a7.out;have:=H.out;omega
 have a4:Hid (T.cell? (aT x 6)=some o.e/\T.cell? (aT w 0)=some (.slice m r n)/\T.cell? (aT w 1)=some (J a.2.b)/\T.cell? (aT w 2)=some (J a.2.m)/\T.cell? (aT w 3)=some (.slice j l s)):=by
  obtain⟨e1,e2,e3,e4,e5⟩:=X.out _ C.out;exact⟨(d.cell_far ⟨x,6,none⟩ U nx).trans e1,(d.cell_far ⟨w.heap.size,0,none⟩ O n0).trans e2,(d.cell_far ⟨w.heap.size,1,none⟩ O n0).trans e3,(d.cell_far ⟨w.heap.size,2,none⟩ O n0).trans e4,(d.cell_far ⟨w.heap.size,3,none⟩ O n0).trans e5⟩
 have b1:Hid (∃a5,To w F b o (T.setCell ⟨x,6,none⟩ (sT g (B.i.length+1) M)) { S with d:=some (B.f q a) } { o with e:=a5,a:=o.a++[(.slice m r n,.slice j l s)] }):=by
  have b7:g≠x:=a1.elim (fun e h=>nx (by rw[<-h];exact e.symm)) fun e h=>by have:=H.out;omega
  have c0:af T x 234 (bu { B with c:=(B.f q a).c } o.e):=(d.block x U nx).trans t.out.c;have N:o.a.length=B.i.length:=t.out.f;have c6:cW (fun y=>y=x\/o.e.ownBlock=some y) Y (T.setCell ⟨x,6,none⟩ (sT g (B.i.length+1) M)):=⟨d.os,d.tape,d.output,by simpa using d.size,fun y hy hn=>(Below.heap_setCell _ _ _ _ fun e=>hn (.inl e)).trans (d.block y hy fun e=>hn (.inr e.symm))⟩;have b4:af (T.setCell ⟨x,6,none⟩ (sT g (B.i.length+1) M)) x 234 (bu (B.f q a) (sT g (B.i.length+1) M)):=c0.e 6 _;refine⟨sT g (B.i.length+1) M,(Q.out.a (Q.out.c.d C.out)).a (P4.out.m D.out rfl c6 b4 (by simp[Bal.f,N]) ?_ (fun i e v f A=>?_) fun y hy=>?_)⟩
  ·show World.ownsRow _ 0 237 4 _ (B.i++[a]).length (bF (B.i++[a]) (o.a++[(.slice m r n,.slice j l s)]));rw[kL N,yC];exact aj a0 fun y hy=>by
    have:g=y:=by simpa[Value.ownBlock] using hy
    subst this;exact Below.heap_setCell _ _ _ _ b7
  ·have f:(B.i++[a])[i]?=some e:=f;by_cases hi:i<B.i.length
   ·rw[y7 hi] at f;rw[y7 ω] at A;exact t.out.e i e v f A
   ·rw[Fl ω] at f;rw[Fl ω,N] at A;have h0:=(ym.1 f).1;simp only[yx,yD] at h0;have e0:i - B.i.length=0:=ω;rw[e0] at f;rw[e0] at A;simp only[AH,yA] at f A;subst f A;exact⟨b3.out,b0.out⟩
  ·have:g=y:=by simpa[Value.ownBlock] using hy
   subst this;exact a1.imp id fun e=>by have:=H.out;omega
 have c9:T.frozen? (aT x 6)=false:=by
  rw[d.frozen_far ⟨x,6,none⟩ U nx];exact t.out.c.b 6
 clear a0 d a1 b5 c HE H C nx U n0 O P4 t b3 b0 Q W a7 a2 X P HR HC c7 D HL;refine k.out _ _ (fun _=>a4.out) (fun c=>?_);clear k K;try simp only[pU]
 have c:=c θ;refine te 8 fun K k=>?_;go_simp;refine k.out _ _ (fun _=>a4.out) (fun c=>?_);clear k K;try simp only[pU]
 refine te 9 fun K k=>?_;go_simp;refine k.out _ _ (fun _=>a4.out) (fun c=>?_);clear k K;try simp only[pU]
 have c:=c θ;refine te 10 fun K k=>?_;go_simp;refine k.out _ _ (fun h=>absurd rfl h) (fun _=>?_);clear k K;try simp only[pU]
 refine gl.done κ ?_ _;go_wp2_with fail
 go_end0
 exact⟨rfl,b1.out⟩
variable {X:Nat}{x0 x1 x2 v a0 a1 a2:Value}{R:Nat->Prop}{l:List Codec.Msg}
def El(S:PS):Lft:=⟨S.a.m,S.a.a,S.Mm S.a.a⟩
def ou(S:PS)(T:PS)(q:Nat):PS:=T.ME q T.b (El S)
def lG(S:PS)(L:List Nat)(k:Nat):Sends S (aG (ou S) L S k) k:=fa (fun T _=>Md.ak T _) L k
def jX{w:World}{T:TypeId}(h:af w X T #[x0,x1,x2])(a c d:Value) :
 af (((w.setCell ⟨X,0,none⟩ a).setCell ⟨X,1,none⟩ c).setCell ⟨X,2,none⟩ d) X T #[a,c,d]/\ej X w (((w.setCell ⟨X,0,none⟩ a).setCell ⟨X,1,none⟩ c).setCell ⟨X,2,none⟩ d):=by
 have g:=h.e 0 a;have f:=g.e 1 c;have e:=f.e 2 d;exact⟨e,(((ej.d X w).a 0 a).a 1 c).a 2 d⟩
def bI.f(h:bI w R v l)(q:af w X 249 #[a0,a1,a2]):bI w (fun x=>R x/\x≠X) v l:=by
 rcases h with h|⟨g,n,a,z,B,c⟩
 ·exact .inl h
 ·match l,a,c with
  |[],a,_=>exact .inl ⟨⟨_,_,a⟩,rfl⟩
  | m :: l, a, c =>
    have i:g≠X:=fun e=>by
     obtain⟨p, -, -, -,k, -⟩:=c 0 m rfl;subst e;have d:w.heap[g]?=some _:=q;simp[World.cell?,d] at k
    refine .inr ⟨g,n,a,z,⟨B,i⟩,fun j A s=>?_⟩;obtain⟨p,u,t,C,k,f⟩:=c j A s;exact⟨p,u,t,C,k,f.d,fun y r=>⟨f.c y r,fun e=>f.o r q θ e⟩⟩
def Af{a:World}(i:Below a a w)(c:a.heap.size<=X)(f:af w X 249 #[x0,x1,x2])(j:bI w R v l) :
 Below a a (((w.setCell ⟨X,0,none⟩ a0).setCell ⟨X,1,none⟩ a1).setCell ⟨X,2,none⟩ a2)/\af (((w.setCell ⟨X,0,none⟩ a0).setCell ⟨X,1,none⟩ a1).setCell ⟨X,2,none⟩ a2) X 249 #[a0,a1,a2]/\bI (((w.setCell ⟨X,0,none⟩ a0).setCell ⟨X,1,none⟩ a1).setCell ⟨X,2,none⟩ a2) R v l:=by
 obtain⟨h,d⟩:=jX f a0 a1 a2;exact⟨i.trans (d.c c),h,(j.f f).c ⟨ς,fun g e _=>⟨e.1,d.block g e.2⟩⟩⟩
def t2{P:Program}{g:Region.Mode}{d:Array Oper}{Q:Exit->Act->World->Prop}{S:World->Prop}{z:Nat}(i j:Nat){o m:Oper}{n:Nat}{c:Array Bool}{a:Act}{w:World}
 (h:∀e:Act->World->Prop,Shut (∀a w,(i≠z->S w)->((i≠z->S w)->gl P g d Q S z n (c.setIfInBounds i true) a w)->e a w)->if Region.wanted o (yielded d a.tmps)=true then Oper.wp P o a w e Q else e (a.put o.dst undef) w)
 (x:∀e:Act->World->Prop,Shut (∀a w,(j≠z->S w)->((j≠z->S w)->gl P g d Q S z n (c.setIfInBounds j true) a w)->e a w)->if Region.wanted m (yielded d a.tmps)=true then Oper.wp P m a w e Q else e (a.put m.dst undef) w)
 (t:Region.ready g d c=[i,j]:=by kernel_rfl) (y:d[i]?=some o:=by exact rfl) (p:d[j]?=some m:=by exact rfl):gl P g d Q S z (n+1) c a w:=
 ⟨fun u=>(by rw[t] at u;cases u),fun k r=>by
  rw[t] at r;simp only[yF,yU,or_false] at r;rcases r with rfl|rfl
  ·exact wpOp_step y (fun e s=>h e (fun a w f q=>s a w ⟨f,q f⟩))
  ·exact wpOp_step p (fun e s=>x e (fun a w f q=>s a w ⟨f,q f⟩))⟩
def qtp(p:PP w F b S o)(wf:Wf S)(ho:S.out=false){x:Nat}{B:Bal}(b3:o.c=some x)(hL:S.d=some B)(c8:S.a.a.length=S.n)(hs:S.e.length<=900000):Do 239 #[pT b 0] (.tuple #[]) w F b o (S.installIf B):=by
 have b1:=p.a.a 13 _ rfl;rw[b3] at b1;simp only[eb,yf,yd,ye] at b1;have c5:=(p.f b3 hL).c.a 5 _ rfl;simp only[bu,yf,yd,ye] at c5;have hW:=wf.lead B hL;obtain⟨C,A,D,b2⟩:=p.vote.a;have d3:=ah (EM p wf hW.acc);have HI:Hid (S.installIf B=if S.Nj B.d then S.MF.install S.a.m S.a.a else S):=rfl;have HC:Hid (∀r,Below w w r->r.cell? (aT b 11)=some (J S.a.m)/\r.cell? (aT b 12)=some (.slice C A D)):=fun r hw=>by
  have h:=(p.c hw).a;rw[<-b2];exact⟨h.a 11 _ rfl,h.a 12 _ rfl⟩
 have Y:Hid (∀r,Below w w r->Calls prog 240 #[pT b 0,.slice C A D] r fun e a6=>Below r r a6/\∃v,e=.returned v/\bI a6 (o.R F b) v (S.Mm S.a.a)):=fun r hw=>by
  have p':=p.c hw;have:=lA p' wf p'.vote c8;rw[b2] at this;exact this
 have HP:=ah p;have e5:=ah wf;have d7:=ah b2;have g0:=wf.c;have e7:S.L8.length<=6:=yr (gG _ S.n) wf.c;have HO:Hid (∀r,Below w w r->Calls prog 110 #[pT b 0] r fun e a6=>∃v,e=.returned v/\a6.ownsRow r 3 1 v S.L8.length (cz S.L8)/\Below r r a6):=fun r hw=>nm (p.c hw) wf;have hx:=(p.f b3 hL).c.f;clear p wf b3 hL hW b2;generalize S.installIf B=Z at HI ⊢;go_enter Tryz.func239,Tryz.ntmps239
 go_wp2_with fail
 refine d3.out.mono ?_;rintro e w1 ⟨rfl,d8⟩;have N:=ah d8;clear d8 d3;cases b0:S.Nj _ with
 | false =>
   have HZ:Hid (Z=S):=by have:=HI.out;rw[b0] at this;exact this
   clear HI b0 HC Y HO;go_wp2_with fail
   (try simp only[Exit.inBlock,Exit.then])
   refine bodyPost_ret (results_none rfl _ _ _) rfl ?_;exact⟨rfl,o,by rw[HZ.out];exact HP.out.d N.out⟩
 | true =>
   have HZ:Hid (Z=S.MF.install S.a.m S.a.a):=by have:=HI.out;rw[b0] at this;exact this
   clear HI b0;go_wp2_with fail
   rename_i QQ KK g1
   have a4:Hid (∀y s u t E,Below w w E->w.heap.size<=y->af E y 249 #[J S.a.m,.slice C A D,.slice s u t]->bI E (o.R F b) (.slice s u t) (S.Mm S.a.a)->Exit.then KK QQ .normal ⟨#[pT b 0,undef,pT y 0,undef,undef,pT b 0,pT b 0,pT b 0,pT b 13,pT x 0,pT x 0,pT x 5,J B.d,.bool true,.bool false,pT b 0,pT b 0,pT b 10,pT b 11,J S.a.m,pT b 0,pT b 0,pT b 10,pT b 12,.slice C A D,pT b 0,pT b 0,pT b 0,pT b 10,pT b 12,.slice C A D,.slice s u t,.agg #[J S.a.m,.slice C A D,.slice s u t],undef,undef,undef,undef,undef,undef,undef,undef,undef,undef,undef,undef,undef,undef,undef,undef,undef,undef,undef,undef,undef,undef],[]⟩ E):=by
    intro y s u t E c0 c3 b5 G;have j:Hid (Below w w E):=c0;have O:Hid (af E y 249 #[J S.a.m,.slice C A D,.slice s u t]):=b5;have HM:Hid (bI E (o.R F b) (.slice s u t) (S.Mm S.a.a)):=G;have d5:Hid (w.heap.size<=y):=c3;have f5:=HO.out E c0;clear c0 b5 G c3 Y HC b1 c5 N;go_wp2_with fail
    refine f5.mono ?_;rintro e H ⟨v,rfl,a9,b4⟩;have c1:Hid (Below w w H):=j.out.trans (b4.mono j.out.size);have P4:Hid (PP H F b S o):=HP.out.c c1.out;have b7:Hid (af H y 249 #[J S.a.m,.slice C A D,.slice s u t]):=O.out.c b4 O.out.f;have c4:Hid (bI H (o.R F b) (.slice s u t) (S.Mm S.a.a)):=HM.out.c ((HP.out.c j.out).d b4).d;have a5:Hid (∃ao c,v=.slice ao S.L8.length c/\(∃sv',To H F b o H (aG (ou S) S.L8 S 0) { o with d:=sv' })/\(∀wr sv',To H F b o wr (aG (ou S) S.L8 S S.L8.length) { o with d:=sv' }->(wr.cell? (aT y 0)=some (J S.a.m)/\wr.cell? (aT y 1)=some (.slice C A D))/\Calls prog 258 #[pT b 0,J S.a.m,.slice C A D] wr fun e r=>e=.returned (.tuple #[])/\∃o',To w F b o r Z o')/\∀(k:Nat) wr sv',k<S.L8.length->To H F b o wr (aG (ou S) S.L8 S k) { o with d:=sv' }->∃q g:Nat,ao=some ⟨g,0,none⟩/\wr.cell? (aT g k)=some (J q)/\(wr.cell? (aT b 6)=some (J S.b)/\wr.cell? (aT y 0)=some (J S.a.m)/\wr.cell? (aT y 1)=some (.slice C A D)/\wr.cell? (aT y 2)=some (.slice s u t))/\Calls prog 208 #[pT b 0,J q,J S.b,.agg #[J S.a.m,.slice C A D,.slice s u t]] wr.drew fun e E=>e=.returned (.tuple #[])/\(∃sv',To H F b o E (aG (ou S) S.L8 S (k+1)) { o with d:=sv' })/\(E.cell? (aT b 6)=some (J S.b)/\E.cell? (aT y 0)=some (J S.a.m)/\E.cell? (aT y 1)=some (.slice C A D)/\E.cell? (aT y 2)=some (.slice s u t))):=by
     obtain⟨ao,c,hv, -⟩:=fN (w':=H) a9 fun _ _ _=>rfl;have f3:¬o.M b y:=fun h=>by have:=HP.out.h h;have:=d5.out;omega
     have b8:∀{wr T o'},To H F b o wr T o'->af wr y 249 #[J S.a.m,.slice C A D,.slice s u t]:=fun h=>(h.e.block y b7.out.f f3).trans b7.out;have a3:∀{wr sv' k},To H F b o wr (aG (ou S) S.L8 S k) { o with d:=sv' }->wr.cell? (aT b 6)=some (J S.b)/\wr.cell? (aT y 0)=some (J S.a.m)/\wr.cell? (aT y 1)=some (.slice C A D)/\wr.cell? (aT y 2)=some (.slice s u t):=fun {wr sv' k} h=>by
      have pp:=h.c;rw[(lG S S.L8 k).e] at pp;have hx:=b8 h;exact⟨pp.a.a 6 _ rfl,hx.a 0 _ rfl,hx.a 1 _ rfl,hx.a 2 _ rfl⟩
     refine⟨ao,c,hv,⟨o.d,To.f P4.out⟩,fun wr sv' h=>⟨⟨(a3 h).2.1,(a3 h).2.2.1⟩,?_⟩,fun k wr sv' hk h=>?_⟩
     ·have z:=lG S S.L8 S.L8.length;rw[iH] at h z;have h:To H F b o wr S.MF { o with d:=sv' }:=h;have z:Sends S S.MF S.L8.length:=z;have a8:=h.c.vote;have e1:S.MF.a=S.a:=z.a.c;rw[e1] at a8;have e8:aE wr (({ o with d:=sv' }:Pl).R F b) (.slice C A D) S.a.a:=d7.out▸a8;have hI:=qun h.c (z.d e5.out) (z.a.out.trans ho) e5.out.vote.2.2 e8 (by rw[z.a.n];exact c8);refine hI.mono ?_;rintro e r ⟨rfl,o',h'⟩;exact⟨rfl,o',by rw[HZ.out];exact((HP.out.d c1.out).a h).a h'⟩
     ·have d6:S.L8[k]?=some S.L8[k]:=yh hk;obtain⟨f8,c',c7,c2⟩:=fN (w':=wr) a9 fun g hg b6=>h.e.block g b6 fun e=>by have:=HP.out.h e;have:=j.out.size;omega
      rw[hv] at c7;injection c7 with e1 _ _;subst e1;obtain⟨g,hg,hc⟩:=c2 k _ d6;refine⟨_,g,hg,hc,a3 h,?_⟩;have b9:Below wr wr wr.drew:=(Below.refl _ _).drew;have pp:=h.c.c b9;have z:=lG S S.L8 k;have c9:aw wr.drew wr.drew.heap.size (.slice C A D) S.a.a:=by
       have a8:=pp.vote;rw[z.a.c] at a8;rw[<-d7.out];exact aX a8.d
      have e9:ba wr.drew wr.drew.heap.size (.slice s u t) (S.Mm S.a.a):=((c4.out.c h.d).c (h.c.d b9).d).at
      refine(kT pp S.L8[k] S.b (El S) (by have:=z.b;omega) c9 e9).mono ?_;rintro e E ⟨rfl,e6,h3⟩;have hT:To H F b o E (aG (ou S) S.L8 S (k+1)) { o with d:=e6 }:=by
       rw[jb d6];show To H F b o E (PS.ME _ _ (aG (ou S) S.L8 S k).b (El S)) _;rw[z.a.a];exact(h.a (h.c.d b9)).a h3
      grind
    obtain⟨ao,c,rfl,h0,hE,c6⟩:=a5.out;have H0:Hid (∃sv',To H F b o H (aG (ou S) S.L8 S 0) { o with d:=sv' }):=h0;have HE:Hid (∀wr sv',To H F b o wr (aG (ou S) S.L8 S S.L8.length) { o with d:=sv' }->_):=hE;have HS:Hid (∀(k:Nat) wr sv',k<S.L8.length->_):=c6;clear h0 hE c6 a9 b4 a5 b7 c4 P4 c1 j O HM d5 HZ;generalize S.L8=L at e7 H0 HE HS HO;go_wp2_with fail
    go_loopw [36] (fun i wr=>∃k:Nat,k<=L.length/\i=J k/\∃sv',To H F b o wr (aG (ou S) L S k) { o with d:=sv' }) (fun i _=>L.length - (intOf i).toNat)
    case atStart=>exact⟨0,ω,rfl,H0.out⟩
    case round=>
     obtain⟨k,hk,rfl,sv',ht⟩:=hrel;by_cases b6:k<L.length
     ·have f6:(k:Int)<(L.length:Int):=ω;have f9:(0:Int)<=(k:Int):=ω;obtain⟨q,g,rfl,cg,e0,hc⟩:=HS.out k wr sv' b6 ht;have a7:Hid (Calls prog 208 _ _ _):=hc;clear hc ht HS HE;go_wp2_with fail
      refine wp_region_held_drew (S:=fun r=>r.cell? (aT b 6)=some (J S.b)/\r.cell? (aT y 0)=some (J S.a.m)/\r.cell? (aT y 1)=some (.slice C A D)/\r.cell? (aT y 2)=some (.slice s u t)) rfl e0 (fun hHeld=>?_)
      (iterate 7 refine ψ ?_)
      refine we 7 fun K I=>?_;go_simp;refine a7.out.mono ?_;rintro e E ⟨rfl,d4,e4⟩;have H3:Hid (∃sv',To H F b o E (aG (ou S) L S (k+1)) { o with d:=sv' }):=d4;clear d4 a7;go_wp2_with fail
      refine I.out _ _ e4 (fun hHeld=>?_);clear I K;try simp only[pU]
      refine wpAnyH_done κ ?_ _;clear hHeld e4 e0;go_wp2_with fail
      exact⟨⟨k+1,ω,by go_num,H3.out⟩,by simp[intOf];omega⟩
     ·have f7:¬(k:Int)<(L.length:Int):=ω;have f4:k=L.length:=ω;obtain⟨⟨d0,d1⟩,hc⟩:=HE.out wr sv' (by rw[<-f4];exact ht);have a7:Hid (Calls prog 258 #[pT b 0,J S.a.m,.slice C A D] wr fun e r=>e=.returned (.tuple #[])/\∃o',To w F b o r Z o'):=hc;clear ht HS HE hc;go_wp2_with fail
      refine a7.out.mono ?_;rintro e w9 ⟨rfl,h9⟩;have H9:Hid (∃o',To w F b o w9 Z o'):=h9;clear h9 a7;go_wp2_with fail
      go_end0
      exact⟨rfl,H9.out⟩
   clear HO HZ b1 c5;refine gl.b (fun r=>r.cell? (aT b 11)=some (J S.a.m)/\r.cell? (aT b 12)=some (.slice C A D)) 19 rfl (HC.out _ N.out.drew) (fun hHeld=>?_)
   (iterate 16 refine χ ?_)
   refine t2 16 18 (fun K I=>?_) (fun K I=>?_)
   ·go_simp;refine(Y.out _ N.out.drew).mono ?_;rintro e V ⟨W,mv,rfl,G⟩;obtain⟨s,u,t,rfl⟩:=G.a;have P:Hid (Below w w V):=N.out.drew.trans (W.mono N.out.drew.size);have HM:Hid (bI V (o.R F b) (.slice s u t) (S.Mm S.a.a)):=G;clear W G Y;refine I.out _ _ (fun _=>HC.out _ P.out) (fun hHeld=>?_);clear I K;try simp only[pU]
    have hHeld:=hHeld θ;refine tk 17 ?_;refine te 18 fun K I=>?_;go_simp;have O:Hid (af (V.alloc (.cells #[J 0,sN,sN] 249)) V.heap.size 249 #[J 0,sN,sN]):=af.d V V.heap.size rfl 249 _;have j:Hid (Below w w (V.alloc (.cells #[J 0,sN,sN] 249))):=P.out.alloc P.out.size _;have d9:Hid (bI (V.alloc (.cells #[J 0,sN,sN] 249)) (o.R F b) (.slice s u t) (S.Mm S.a.a)):=HM.out.c ((HP.out.c P.out).d ((Below.refl _ _).alloc (yb _) _)).d;have Q:Hid (w.heap.size<=V):=P.out.size;refine I.out _ _ (fun _=>HC.out _ j.out) (fun hHeld=>?_);clear I K;try simp only[pU]
    have hHeld:=hHeld θ;generalize V.alloc (.cells #[J 0,sN,sN] 249)=E at O j d9 hHeld ⊢;generalize V.heap.size=X at O Q ⊢;have d0:=O.out.a 0 _ rfl;have d1:=O.out.a 1 _ rfl;have d2:=O.out.a 2 _ rfl;have f0:=O.out.b 0;have f1:=O.out.b 1;have f2:=O.out.b 2;simp only[yf,yd,ye] at d0 d1 d2;refine te 19 fun K I=>?_;go_simp;refine I.out _ _ (fun h=>absurd rfl h) (fun _=>?_);clear I K;try simp only[pU]
    refine gl.done κ ?_ _;obtain⟨e1,e2,e3⟩:=Af (a0:=J S.a.m) (a1:=.slice C A D) (a2:=.slice s u t) j.out Q.out O.out d9.out;exact a4.out X s u t _ e1 Q.out e2 e3
   ·go_simp;have O:Hid (af (w1.alloc (.cells #[J 0,sN,sN] 249)).drew w1.heap.size 249 #[J 0,sN,sN]):=(af.d w1 w1.heap.size rfl 249 _).i;have j:Hid (Below w w (w1.alloc (.cells #[J 0,sN,sN] 249)).drew):=(N.out.alloc N.out.size _).drew;have Q:Hid (w.heap.size<=w1):=N.out.size;refine I.out _ _ (fun _=>HC.out _ j.out) (fun hHeld=>?_);clear I K;try simp only[pU]
    have hHeld:=hHeld θ;generalize (w1.alloc (.cells #[J 0,sN,sN] 249)).drew=E at O j hHeld ⊢;generalize w1.heap.size=X at O Q ⊢;refine te 16 fun K I=>?_;go_simp;refine(Y.out _ j.out).mono ?_;rintro e V ⟨W,mv,rfl,G⟩;obtain⟨s,u,t,rfl⟩:=G.a;have P:Hid (Below w w V):=j.out.trans (W.mono j.out.size);have HM:Hid (bI V (o.R F b) (.slice s u t) (S.Mm S.a.a)):=G;have U:Hid (af V X 249 #[J 0,sN,sN]):=O.out.c W O.out.f;clear W G Y;refine I.out _ _ (fun _=>HC.out _ P.out) (fun hHeld=>?_);clear I K;try simp only[pU]
    have hHeld:=hHeld θ;refine tk 17 ?_;have d0:=U.out.a 0 _ rfl;have d1:=U.out.a 1 _ rfl;have d2:=U.out.a 2 _ rfl;have f0:=U.out.b 0;have f1:=U.out.b 1;have f2:=U.out.b 2;simp only[yf,yd,ye] at d0 d1 d2;refine te 19 fun K I=>?_;go_simp;refine I.out _ _ (fun h=>absurd rfl h) (fun _=>?_);clear I K;try simp only[pU]
    refine gl.done κ ?_ _;obtain⟨e1,e2,e3⟩:=Af (a0:=J S.a.m) (a1:=.slice C A D) (a2:=.slice s u t) P.out Q.out U.out HM.out;exact a4.out X s u t _ e1 Q.out e2 e3
variable {B:Bal}{x:Nat}{av:Value}{avs:List (Value × Value)}
def nK:∀{L:List (List Int × Vote)}{vs:List (Value × Value)}{k:Nat}{a:List Int × Vote}{v:Value × Value},L[k]?=some a->vs[k]?=some v->(bF L vs)[k * 4]?=some v.1/\(bF L vs)[k * 4+1]?=some (J a.2.b)/\(bF L vs)[k * 4+2]?=some (J a.2.m)/\(bF L vs)[k * 4+3]?=some v.2
 | x :: L, y :: vs, 0, a, v, d, c => by
   simp only[AH,yA] at d c;subst d c;exact⟨rfl,rfl,rfl,rfl⟩
 | x :: L, y :: vs, k + 1, a, v, d, c => by
   have e:=nK (by simpa using d) (by simpa using c);rw[show (k+1) * 4=k * 4+4 by omega];simp only[bF,Ft,List.nil_append,List.getElem?_cons_succ,show k * 4+4+1=k * 4+1+4 by omega,show k * 4+4+2=k * 4+2+4 by omega,show k * 4+4+3=k * 4+3+4 by omega];exact e
def se{e s:Nat}{v:Value}{n:Nat}{m:List Value}(h:w.ownsRow 0 e s v n m):∃p c,v=.slice p n c/\∀(j:Nat) u,m[j]?=some u->∃g,p=some ⟨g,0,none⟩/\g<w.heap.size/\w.cell? (aT g j)=some u:=by
 rcases h.2 with ⟨d,l⟩|⟨g,i,r,d,t,q, -⟩
 ·refine⟨none,0,by rw[d,l],fun j u k=>?_⟩;have:=(ym.1 k).1;have f:=h.1;rw[l] at f;omega
 ·refine⟨_,i,d,fun j u k=>⟨g,rfl,(yk.1 q).1,?_⟩⟩;have f:=h.cells (by rw[d];rfl) j u k;have a:(⟨g,0,none⟩:Addr).add j=(aT g j):=by unfold Addr.add;split <;> simp_all
  rw[a] at f;exact f
def fD.h(h:fD w R B x av avs):∃i c,av=.slice i B.i.length c/\∀(k:Nat),k<B.i.length->∃a v g,B.i[k]?=some a/\avs[k]?=some v/\i=some ⟨g,0,none⟩/\g<w.heap.size/\w.cell? ⟨g,k * 4,none⟩=some v.1/\w.cell? ⟨g,k * 4+1,none⟩=some (J a.2.b)/\w.cell? ⟨g,k * 4+2,none⟩=some (J a.2.m)/\w.cell? ⟨g,k * 4+3,none⟩=some v.2/\aE w R v.1 a.1/\aE w R v.2 a.2.a:=by
 obtain⟨i,c,t,j⟩:=se h.d;refine⟨i,c,t,fun k q=>?_⟩;have p:k<avs.length:=by rw[h.f];exact q
 have m:=yh q;have n:=yh p;obtain⟨u,A,E,z⟩:=nK m n;obtain⟨g,r,l,s⟩:=j _ _ u;obtain⟨I,e, -,y⟩:=j _ _ A;obtain⟨G,d, -,D⟩:=j _ _ E;obtain⟨H,f, -,C⟩:=j _ _ z;rw[r] at e d f;cases e;cases d;cases f;exact⟨_,_,g,m,n,r,l,s,y,D,C,h.e k _ _ m n⟩
def ib(B:Bal)(k:Nat):Vote:=(B.i.take k).foldl (fun v a=>if v.b<a.2.b then a.2 else v) ⟨0,0,[]⟩
def zd{k:Nat}{a:List Int × Vote}(h:B.i[k]?=some a):ib B (k+1)=if (ib B k).b<a.2.b then a.2 else ib B k:=by
 obtain⟨c,rfl⟩:=ym.1 h;unfold ib;rw[<-List.take_append_getElem c,List.foldl_append];rfl
def Ca(B:Bal):ib B B.i.length=B.h:=by unfold ib;rw[AE];rfl
def ze(h:fD w R B x av avs)(a2:B.i.length<=1000) :
 Calls prog 269 #[pT x 0] w fun e w'=>Below w w w'/\∃cv,e=.returned (.agg #[J B.h.b,J B.h.m,cv])/\aE w R cv B.h.a:=by
 obtain⟨ao,c,rfl,hA⟩:=h.h;have c6:=h.c.a 6 _ rfl;simp only[bu,yf,yd,ye] at c6;have a4:=ah h.c.f;have HA:=ah hA;have d:Hid (Below w w ((w.alloc (.cells #[J 0,J 0,sN] 154)).alloc (.cells #[J 0,J 0,sN] 154))):=((Below.refl _ _).alloc (yb _) _).alloc ς _;have r:Hid (af ((w.alloc (.cells #[J 0,J 0,sN] 154)).alloc (.cells #[J 0,J 0,sN] 154)) w.heap.size 154 #[J 0,J 0,sN]):=(af.d w w.heap.size rfl 154 _).c ((Below.refl _ _).alloc (yb _) _) ς;have s:Hid (af ((w.alloc (.cells #[J 0,J 0,sN] 154)).alloc (.cells #[J 0,J 0,sN] 154)) (w.heap.size+1) 154 #[J 0,J 0,sN]):=af.d (w.alloc (.cells #[J 0,J 0,sN] 154)) (w.heap.size+1) ς 154 _;have d6:=(d.out.cell h.c.f).trans c6;clear hA c6 h;go_enter Tryz.func269,Tryz.ntmps269
 go_wp2_with fail
 generalize (w.alloc _).alloc _=w2 at d r s d6 ⊢;clear d6;go_loopw [11] (fun i wr=>∃k:Nat,k<=B.i.length/\i=J k/\Below _ w wr/\af wr _ 154 _/\∃t z A,af wr _ 154 #[J (ib B k).b,J (ib B k).m,.slice t z A]/\aE w R (.slice t z A) (ib B k).a) (fun i _=>B.i.length - (intOf i).toNat)
 case atStart=>exact⟨0,ω,rfl,d.out,r.out,none,0,0,s.out,⟨⟨rfl,.inl ⟨rfl,rfl⟩⟩,fun g y=>by cases y⟩⟩
 case round=>
  obtain⟨k,hk,rfl,hb,D,t,z,A,K,hn⟩:=hrel;have n:=ah hb;have f:=ah D;have l:=ah K;have O:=ah hn;clear hb D K hn d r s;by_cases X:k<B.i.length
  ·have a1:(k:Int)<(B.i.length:Int):=ω;have a5:(0:Int)<=(k:Int):=ω;obtain⟨a,v,g,ha,hv,rfl,y,e0,e1,e2,e3,hr,W⟩:=HA.out k X;obtain⟨ro,rn,Y,N⟩:=hr.a;obtain⟨G,L,M,H⟩:=W.a;rw[N] at e0;rw[H] at e3 W;have HC:=ah W;have Q:=ah (zd ha);have g0:=(n.out.cell (p:=⟨g,k * 4,none⟩) y).trans e0;have g1:=(n.out.cell (p:=⟨g,k * 4+1,none⟩) y).trans e1;have g2:=(n.out.cell (p:=⟨g,k * 4+2,none⟩) y).trans e2;have g3:=(n.out.cell (p:=⟨g,k * 4+3,none⟩) y).trans e3;clear e0 e1 e2 e3 hr W ha hv N H HA;have hs:=ah l.out.f;generalize ib B k=V at l O Q;have U:Hid (Below wr wr (wr.alloc (.cells #[.slice ro rn Y,J a.2.b,J a.2.m,.slice G L M] 237))):=(Below.refl _ _).alloc (yb _) _;have q:=l.out.c U.out hs.out;have Z:=q.a 0 _ rfl;have q1:=q.a 1 _ rfl;have q2:=q.a 2 _ rfl;have f0:=q.b 0;have f1:=q.b 1;have f2:=q.b 2;simp only[yf,yd,ye] at Z q1 q2;have P:=ah q;have d:Hid (af (wr.alloc (.cells #[.slice ro rn Y,J a.2.b,J a.2.m,.slice G L M] 237)) w.heap.size 154 #[J 0,J 0,sN]):=f.out.c U.out (by have:=hs.out;omega);have C:=ah (n.out.trans (U.out.mono n.out.size));have E:=af.d wr wr.heap.size rfl 237 #[.slice ro rn Y,J a.2.b,J a.2.m,.slice G L M];have n0:=E.a 0 _ rfl;have n1:=E.a 1 _ rfl;have n2:=E.a 2 _ rfl;have n3:=E.a 3 _ rfl;simp only[yf,yd,ye] at n0 n1 n2 n3;clear f l U n q E;by_cases I:V.b<a.2.b
   ·have p:Hid (ib B (k+1)=a.2):=by rw[Hid,Q.out,if_pos I]
    clear Q O;go_wp2_with fail
    obtain⟨u,T⟩:=jX P.out (J a.2.b) (J a.2.m) (.slice G L M);refine⟨⟨k+1,ω,by go_num,C.out.trans (T.c ω),(T.block w.heap.size ω).trans d.out,G,L,M,?_,?_⟩,by simp[intOf];omega⟩
    ·rw[p.out];exact u
    ·rw[p.out];exact HC.out
   ·have p:Hid (ib B (k+1)=V):=by rw[Hid,Q.out,if_neg I]
    clear Q;go_wp2_with fail
    refine⟨⟨k+1,ω,by go_num,C.out,d.out,t,z,A,?_,?_⟩,by simp[intOf];omega⟩
    ·rw[p.out];exact P.out
    ·rw[p.out];exact O.out
  ·have a3:¬(k:Int)<(B.i.length:Int):=ω;have a0:k=B.i.length:=ω;have p:Hid (ib B k=B.h):=by rw[Hid,a0];exact Ca B
   clear HA;generalize ib B k=V at l O p;have Z:=l.out.a 0 _ rfl;have q1:=l.out.a 1 _ rfl;have q2:=l.out.a 2 _ rfl;have p0:=f.out.a 0 _ rfl;have p1:=f.out.a 1 _ rfl;have p2:=f.out.a 2 _ rfl;have f0:=f.out.b 0;have f1:=f.out.b 1;have f2:=f.out.b 2;simp only[yf,yd,ye] at Z q1 q2 p0 p1 p2;obtain⟨u,T⟩:=jX f.out (J V.b) (J V.m) (.slice t z A);have HZ:=ah (n.out.trans (T.c (yb _)));have r0:=u.a 0 _ rfl;have r1:=u.a 1 _ rfl;have r2:=u.a 2 _ rfl;simp only[yf,yd,ye] at r0 r1 r2;clear u T f l n;go_wp2_with fail
   refine bodyPost_ret (v:=.agg #[J V.b,J V.m,.slice t z A]) (by simp[results,Tryz.results269,go_sem,r0,r1,r2]) rfl ?_;rw[<-p.out];exact⟨HZ.out,_,rfl,O.out⟩
end
section
open Go.RowKit
open Md (PS Vote Bal Lft Wf MsgW Sends)
variable {w w':World}{F:Nat->Prop}{b:Nat}{S:PS}{o:Pl}{j n:Nat}{c r l:List Int}{B:Bal}
def vS(h:j<l.length):(ints l)[j]?=some (J (l.getD j 0)):=by simp[ints,h]
def rN(g c:Nat)(a:List Int)(w:World)(f:g<w)(z:∀(j:Nat) u,(ints a)[j]?=some u->w.cell? (aT g j)=some u)(G:a.length<=6)(H:1<=a.length):Calls prog 118 #[sT g a.length c] w fun e h=>∃i d,e=.returned (sT i a.length d)/\h.ownsRow w 3 1 (sT i a.length d) a.length (ints a)/\Below w w h:=by
 obtain⟨A,E,q,s,m⟩:=info_parts zf;have C:Hid ((w.alloc (.cells #[] 3)).ownsRow w 3 1 (sT w 0 0) 0 []):=⟨rfl,.inr ⟨_,_,#[],rfl,yb _,heap_alloc_new w _,yb _,oI _,rfl,rfl⟩⟩;have D:Hid (∀(j:Nat) u,(ints a)[j]?=some u->(w.alloc (.cells #[] 3)).cell? (aT g j)=some u):=fun j u k=>(((Below.refl _ _).alloc (yb _) _).cell (p:=(aT g j)) f).trans (z j u k);have p:=fun h:World=>Lib.run_eql_slice_nil h 69 3 (some ⟨g,0,none⟩) a.length c 0 0 Tryz.underlying69;simp only[Option.isNone_some] at p;clear z;go_enter Tryz.func118,Tryz.ntmps118
 go_wp2_with (at_builtin;refine wpList_append_own_at _ rfl _ _ 69 rfl _ 3 A (J 0) 1 8 Tryz.underlying69 E q s m rfl θ _ _ _ rfl C.out _ a.length c (ints a) rfl ?c0 ?c1 ?c2 ?c3 ?c4 ?c5 ?_)
 case c0=>rw[fe];simp
 case c1=>intro j u k;rw[lu];exact D.out j u k
 case c2=>intro u y;simp[ints] at y;obtain⟨_,_,rfl⟩:=y;rfl
 case c3=>unfold maxLen;omega
 case c4=>omega
 case c5=>simp
 intro v K t f _ _;obtain⟨i,d,rfl,_,_⟩:=World.ownsRow.form t ω;go_wp2
 go_ret;refine⟨i,d,rfl,t,?_⟩;exact((Below.refl _ _).alloc (yb _) _).trans ⟨f.os,f.tape,f.output,f.size,fun x I=>f.block x (by simp;omega) (fun e=>by injection e with e;simp at e;omega)⟩
def GD{a g d:Nat}(h:w.ownsRow a 3 1 (sT g n d) n (ints l))(y:j<n)(u:Int) :
 (w.setCell ⟨g,j,none⟩ (J u)).ownsRow a 3 1 (sT g n d) n (ints (l.set j u))/\w.cell? (aT g j)=some (J (l.getD j 0))/\w.frozen? (aT g j)=false/\ej g w (w.setCell ⟨g,j,none⟩ (J u)):=by
 have x:l.length=n:=by have:=h.1;simpa[fe] using this
 rcases h.2 with ⟨k, -⟩|⟨D,v,e,k,C,z,i,q,p,m⟩
 ·cases k
 ·cases k;have t:af w g 3 e:=z;have A:j<e.size:=ω;refine⟨⟨?_,.inr ⟨g,d,_,rfl,C,t.e j (J u),i,q,by simpa using p,?_⟩⟩,?_,t.b j,(ej.d g w).a j _⟩
  ·rw[fe,Ko,x];simp
  ·rw[Array.toList_setIfInBounds,List.take_set,m];simp[ints,List.map_set]
  ·have s:=h.cells rfl j (J (l.getD j 0)) (by simp[ints,x,y]);have f:(⟨g,0,none⟩:Addr).add j=(aT g j):=by unfold Addr.add;split <;> simp_all
   rw[f] at s;exact s
def dC(c r:List Int)(j:Nat):List Int:=(List.range c.length).map fun s=>if s<j then max (c.getD s 0) (r.getD s 0) else c.getD s 0
def vY(c r:List Int):dC c r 0=c:=by
 refine Lj (by simp[dC]) fun i d a=>?_;simp[dC,a]
def zk(h:c.length=n):dC c r n=Md.dB c r:=by
 unfold dC Md.dB;refine GU fun s a=>?_;rw[if_pos (by rw[zD] at a;omega)]
def Ce:(dC c r j).getD j 0=c.getD j 0:=by
 by_cases h:j<c.length
 ·simp[dC,h]
 ·simp[dC,h]
def zl:(dC c r j).set j (max (c.getD j 0) (r.getD j 0))=dC c r (j+1):=by
 refine Lj (by simp[dC]) fun i f d=>?_;simp only[List.getElem_set,dC,Kw,List.getElem_range];by_cases e:j=i
 ·subst e;simp
 ·rw[if_neg e];by_cases a:i<j
  ·rw[if_pos a,if_pos ω]
  ·rw[if_neg a,if_neg ω]
def du(B:Bal)(k:Nat):List Int:=(B.i.take k).foldl (fun c a=>Md.dB c a.1) (B.i.headD ([],⟨0,0,[]⟩)).1
def vO{k:Nat}{a:List Int × Vote}(h:B.i[k]?=some a):du B (k+1)=Md.dB (du B k) a.1:=by
 obtain⟨d,rfl⟩:=ym.1 h;unfold du;rw[<-List.take_append_getElem d,List.foldl_append];rfl
def za(B:Bal):du B B.i.length=B.j:=by unfold du;rw[AE];rfl
def zb(g:∀a∈B.i,a.1.length=n)(h:B.i≠[])(k:Nat):(du B k).length=n:=by
 unfold du;have d:((B.i.headD ([],⟨0,0,[]⟩)).1).length=n:=by
  match e:B.i with
  |[]=>exact(h e).elim
  |a::l=>exact g a (by rw[e];exact yY ..)
 generalize (B.i.headD _).1=c at d;generalize B.i.take k=L;induction L generalizing c with
 |nil=>exact d
 |cons a l f=>exact f _ (by show (Md.dB c a.1).length=n;rw[Md.iW];exact d)
def vP{R:Nat->Prop}{x:Nat}{av:Value}{b7:List (Value × Value)}(h:fD w R B x av b7)(c4:B.i.length<=1000)(hl:∀a∈B.i,a.1.length=n)(ne:B.i≠[])(d2:n<=6)(d1:1<=n) :
 Calls prog 270 #[pT x 0] w fun e t=>Below w w t/\∃g f,e=.returned (sT g n f)/\t.ownsRow w 3 1 (sT g n f) n (ints B.j):=by
 obtain⟨ao,c,rfl,hA⟩:=h.h;have c6:=h.c.a 6 _ rfl;simp only[bu,yf,yd,ye] at c6;have b9:=ah h.c.f;have U:=List.length_pos_iff.2 ne;have HG:=ah (zb hl ne);have HA:Hid (∀(k:Nat),k<B.i.length->∃a q P Z mm cv g,B.i[k]?=some a/\ao=some ⟨g,0,none⟩/\g<w.heap.size/\w.cell? ⟨g,k * 4,none⟩=some (sT q n P)/\w.cell? ⟨g,k * 4+1,none⟩=some (J Z)/\w.cell? ⟨g,k * 4+2,none⟩=some (J mm)/\w.cell? ⟨g,k * 4+3,none⟩=some cv/\(∃co cn ck,cv=.slice co cn ck)/\q<w.heap.size/\(∀(j:Nat) u,(ints a.1)[j]?=some u->w.cell? (aT q j)=some u)/\a.1.length=n):=fun k hk=>by
  obtain⟨a,v,g,ha, -,V,L,G,e1,e2,e3,hr,hc⟩:=hA k hk;have O:=hl a (yy ha);obtain⟨ro,P,b4,a7⟩:=se hr.d;obtain⟨q,A,Y, -⟩:=a7 0 (J (a.1.getD 0 0)) (vS (l:=a.1) ω);refine⟨a,q,P,_,_,v.2,g,ha,V,L,by rw[G,b4,A,O],e1,e2,e3,hc.a,Y,fun j u hj=>?_,O⟩;obtain⟨d0,I, -,h1⟩:=a7 j u hj;rw[A] at I;cases I;exact h1
 obtain⟨a0,T,M,c7,d3,c5,g,a4,rfl,V,G, -, -, -, -,a5,E,D⟩:=HA.out 0 U;have a9:Hid (Calls prog 118 #[sT T n M] w fun e t=>∃g' f,e=.returned (sT g' n f)/\t.ownsRow w 3 1 (sT g' n f) n (ints (du B 0))/\Below w w t):=by
  have h1:=rN T M a0.1 w a5 E ω ω;rw[D] at h1;have e:du B 0=a0.1:=by
   unfold du;match e:B.i,a4 with
   |y::l,h=>simp at h;subst h;rfl
  rw[e];exact h1
 have d5:0<B.i.length:=ω;have b0:Hid (∀t,Below w w t->t.cell? (aT x 6)=some (sT g B.i.length c)):=fun t hw=>(hw.cell (p:=(aT x 6)) b9.out).trans c6;clear h hA hl ne E a4 D;have G:w.cell? (aT g 0)=some (sT T n M):=by simpa using G
 go_enter Tryz.func270,Tryz.ntmps270
 go_wp2_with fail
 refine a9.out.mono ?_;rintro e w1 ⟨N,f,rfl,d,Q⟩;have H1:=ah d;have a2:=ah Q;have d6:=b0.out w1 Q;have b8:=ah ((d.lt N rfl).1);clear d Q a9 c6 G b0;go_wp2_with fail
 go_loopw [21] (fun i wr=>∃k:Nat,k<=B.i.length/\i=J k/\Below _ w wr/\wr.ownsRow _ 3 1 _ n (ints (du B k))) (fun i _=>B.i.length - (intOf i).toNat)
 case atStart=>exact⟨0,ω,rfl,a2.out,H1.out⟩
 case round=>
  obtain⟨k,hk,rfl,H,d⟩:=hrel;have HB:=ah H;have HO:=ah d;clear H d a2 H1 d6;by_cases L:k<B.i.length
  ·have c3:(k:Int)<(B.i.length:Int):=ω;have c9:(0:Int)<=(k:Int):=ω;obtain⟨a,q,P,Z,mm,cv,g',ha,b2, -,G,e1,e2,e3,⟨co,cn,ck,rfl⟩,A,a3,O⟩:=HA.out k L;cases b2;have HH:=ah (vO ha);have c0:Hid (du B (k+1)=du B (k+1)):=rfl;have X:=ah (HG.out k);have K:Hid (∀W,Below w w W->∀j,j<n->W.cell? (aT q j)=some (J (a.1.getD j 0))):=fun W hq j hj=>(hq.cell (p:=(aT q j)) A).trans (a3 j _ (vS (l:=a.1) ω));have g0:=(HB.out.cell (p:=⟨g,k * 4,none⟩) V).trans G;have g1:=(HB.out.cell (p:=⟨g,k * 4+1,none⟩) V).trans e1;have g2:=(HB.out.cell (p:=⟨g,k * 4+2,none⟩) V).trans e2;have g3:=(HB.out.cell (p:=⟨g,k * 4+3,none⟩) V).trans e3;have HW:Hid (Below wr wr (wr.alloc (.cells #[sT q n P,J Z,J mm,.slice co cn ck] 237))):=(Below.refl _ _).alloc (yb _) _;have z:=ah (HB.out.trans (HW.out.mono HB.out.size));have s:=ah (aQ HO.out HW.out);have BN:=af.d wr wr.heap.size rfl 237 #[sT q n P,J Z,J mm,.slice co cn ck];have n0:=BN.a 0 _ rfl;simp only[yf,yd] at n0;clear G e1 e2 e3 ha a3 HA BN HB HO HG HW;generalize du B k=C at s HH X;generalize a8:du B (k+1)=C2 at HH;have a6:=ah a8;clear a8 c0;go_wp2_with fail
   generalize wr.alloc (.cells #[sT q n P,J Z,J mm,.slice co cn ck] 237)=wW at z s n0 ⊢;clear n0 g0 g1 g2 g3;go_loopw [28] (fun i W=>∃j:Nat,j<=n/\i=J j/\Below w w W/\W.ownsRow w 3 1 (sT N n f) n (ints (dC C a.1 j))) (fun i _=>n - (intOf i).toNat)
   case atStart=>exact⟨0,ω,rfl,z.out,by rw[vY];exact s.out⟩
   case round=>
    obtain⟨j,hj,rfl,H,d⟩:=hrel;by_cases a1:j<n
    ·have d4:(j:Int)<(n:Int):=ω;have c8:(0:Int)<=(j:Int):=ω;obtain⟨r1,r2,r3,r4⟩:=GD d a1 (max (C.getD j 0) (a.1.getD j 0));have cr:=K.out wr H j a1;have HB:=ah (H.trans (r4.c b8.out));have HR:Hid ((wr.setCell ⟨N,j,none⟩ (J (max (C.getD j 0) (a.1.getD j 0)))).ownsRow w 3 1 (sT N n f) n (ints (dC C a.1 (j+1)))):=by rw[zl] at r1;exact r1
     rw[Ce] at r2;clear H d r1 r4 K z s;generalize C.getD j 0=c1 at r2 HB HR;generalize a.1.getD j 0=c2 at cr HB HR;go_wp2_with fail
     exact⟨⟨j+1,ω,by go_num,HB.out,HR.out⟩,by simp[intOf];omega⟩
    ·have b1:¬(j:Int)<(n:Int):=ω;have b5:j=n:=ω;have HB:=ah H;have HO:Hid (wr.ownsRow w 3 1 (sT N n f) n (ints C2)):=by
      have e:=zk (r:=a.1) X.out;rw[<-b5] at e;rw[HH.out,<-e];exact d
     have b6:Hid (wr.ownsRow w 3 1 (sT N n f) n (ints (du B (k+1)))):=by rw[a6.out];exact HO.out
     clear H d K z s;go_wp2_with fail
     exact⟨⟨k+1,ω,by go_num,HB.out,b6.out⟩,by simp[intOf];omega⟩
  ·have b1:¬(k:Int)<(B.i.length:Int):=ω;have b3:k=B.i.length:=ω;have HV:Hid (du B k=B.j):=by rw[Hid,b3];exact za B
   clear HA HG;go_wp2_with fail
   go_ret;rw[<-HV.out];exact⟨HB.out,N,f,rfl,HO.out⟩
variable {R:Nat->Prop}
def gI(hb:Below w w w'):jo R R w w':=⟨hb.size,fun g hg hlt=>⟨hg,hb.block g hlt⟩⟩
def BM(hR:∀y,w.heap.size<=y->R y){B:Bal}{x n:Nat}{av:Value}{avs:List (Value × Value)}(h:fD w R B x av avs)(hfew:B.i.length<=1000)(hl:∀a∈B.i,a.1.length=n)(ne:B.i≠[])(hn6:n<=6)(hn0:1<=n) :
 Calls prog 238 #[pT x 0] w fun e w'=>Below w w w'/\∃co cn ck,e=.returned (.agg #[J B.b.b,J B.b.m,.slice co cn ck])/\aE w' R (.slice co cn ck) B.b.a:=by
 have later:∀w',Below w w w'->fD w' R B x av avs:=fun w' hw=>h.g (gI hw) (hw.block x h.c.f) fun g hg=>by
  obtain⟨cur,hc⟩:=kr h.d hg;exact hw.block g (yk.1 hc).1
 have HH:Hid (∀w',Below w w w'->Calls prog 269 #[pT x 0] w' fun e w''=>Below w' w' w''/\∃co cn ck,e=.returned (.agg #[J B.h.b,J B.h.m,.slice co cn ck])/\aE w' R (.slice co cn ck) B.h.a):=fun w' hw=>by
  refine(ze (later w' hw) hfew).mono ?_;rintro e w'' ⟨hb,cv,rfl,hn⟩;obtain⟨co,cn,ck,rfl⟩:=hn.a;exact⟨hb,co,cn,ck,rfl,hn⟩
 have HGR:Hid (∀w',Below w w w'->Calls prog 270 #[pT x 0] w' fun e w''=>Below w' w' w''/\∃g cap,e=.returned (sT g n cap)/\w.heap.size<=g/\g<w''.heap.size/\w'.heap.size<=g/\aE w'' R (sT g n cap) B.j):=fun w' hw=>by
  refine(vP (later w' hw) hfew hl ne hn6 hn0).mono ?_;rintro e w'' ⟨hb,g,cap,rfl,hown⟩;have hg:=hown.lt g rfl;have hgl:B.j.length=n:=Md.lW hl ne;refine⟨hb,g,cap,rfl,yr hw.size hg.1,hg.2,hg.1,?_⟩;refine⟨by rw[hgl];exact aD hown (oI _),fun y hy=>?_⟩;have:g=y:=by simpa[Value.ownBlock] using hy
  subst this;exact hR _ (yr hw.size hg.1)
 have HX:Hid (∀w',Below w w w'->w'.cell? (aT x 0)=some (J B.g)/\w'.cell? (aT x 3)=some (J B.a)):=fun w' hw=>⟨(later w' hw).c.a 0 _ rfl,(later w' hw).c.a 3 _ rfl⟩;have HCH:Hid (B.b=if B.h.b=0 then ⟨B.g,B.a,B.j⟩ else { B.h with b:=B.g }):=rfl;have HB0:Hid (Below w w (w.alloc (.cells #[J 0,J 0,sN] 154))):=(Below.refl _ _).alloc (yb _) _;have HX0:Hid (af (w.alloc (.cells #[J 0,J 0,sN] 154)) w.heap.size 154 #[J 0,J 0,sN]):=af.d w w.heap.size rfl 154 _;clear h later hl ne;generalize B.b=Z at HCH ⊢;generalize B.h=V at HH HCH;generalize B.j=Gr at HGR HCH;go_enter Tryz.func238,Tryz.ntmps238
 refine wp_seq_k fun K hK=>?_;have HK1:Hid (∀a w,_->K a w):=hK;clear hK;go_wp2_with fail
 refine HK1.out _ _ ?_;clear HK1 K;generalize w.alloc (.cells #[J 0,J 0,sN] 154)=w0 at HB0 HX0 ⊢;refine wp_seq_k fun K hK=>?_;have HK1:Hid (∀a w,_->K a w):=hK;clear hK;go_wp2_with fail
 refine(HH.out w0 HB0.out).mono ?_;rintro e w1 ⟨hb1,ko,kn,kk,rfl,hn⟩;have HB1:Hid (Below w w w1):=HB0.out.trans (hb1.mono HB0.out.size);have HX1:Hid (af w1 w.heap.size 154 #[J 0,J 0,sN]):=HX0.out.c hb1 HX0.out.f;have HN1:Hid (aE w1 R (.slice ko kn kk) V.a):=hn.f (gI hb1);clear hb1 hn HH HB0 HX0;have hs1:Hid (w.heap.size<w1):=HX1.out.f;have HB2:Hid (Below w1 w1 (w1.alloc (.cells #[J V.b,J V.m,.slice ko kn kk] 154))):=(Below.refl _ _).alloc (yb _) _;have X3:=af.d w1 w1.heap.size rfl 154 #[J V.b,J V.m,.slice ko kn kk];have q0:=X3.a 0 _ rfl;have q1:=X3.a 1 _ rfl;have q2:=X3.a 2 _ rfl;have f0:=X3.b 0;have f1:=X3.b 1;have f2:=X3.b 2;simp only[yf,yd,ye] at q0 q1 q2;have HX3:Hid (af (w1.alloc (.cells #[J V.b,J V.m,.slice ko kn kk] 154)) w1.heap.size 154 #[J V.b,J V.m,.slice ko kn kk]):=X3;clear X3;have HBW:Hid (Below w w (w1.alloc (.cells #[J V.b,J V.m,.slice ko kn kk] 154))):=HB1.out.trans (HB2.out.mono HB1.out.size);have HRW:Hid (af (w1.alloc (.cells #[J V.b,J V.m,.slice ko kn kk] 154)) w.heap.size 154 #[J 0,J 0,sN]):=HX1.out.c HB2.out HX1.out.f;have HNW:Hid (aE (w1.alloc (.cells #[J V.b,J V.m,.slice ko kn kk] 154)) R (.slice ko kn kk) V.a):=HN1.out.f (gI HB2.out);have hXle:Hid (w.heap.size<=w1):=HB1.out.size;have hne:Hid (w.heap.size≠w1.heap.size):=by have:=hs1.out;unfold Hid;omega
 have HXW:=HX3;clear HX3 HX1 HN1 HB1 HB2 hs1;go_wp2_with fail
 refine HK1.out _ _ ?_;clear HK1 K;generalize w1.alloc (.cells #[J V.b,J V.m,.slice ko kn kk] 154)=W at HBW HRW HXW HNW q0 q1 q2 f0 f1 f2 ⊢;generalize w1.heap.size=X at HXW hXle hne q0 q1 q2 f0 f1 f2 ⊢;by_cases hv:V.b=0
 ·have HZ:Hid (Z=⟨B.g,B.a,Gr⟩):=by rw[Hid,HCH.out,if_pos hv]
  clear HCH;go_wp2_with fail
  clear q0 q1 q2 f0 f1 f2 HNW;refine gl.b (fun w'=>w'.cell? (aT x 3)=some (J B.a)) 7 rfl (HX.out _ HBW.out.drew).2 (fun hHeld=>?_)
  (iterate 5 refine χ ?_)
  refine te 5 fun K hK=>?_;go_simp;refine(HGR.out _ HBW.out.drew).mono ?_;rintro e w3 ⟨hb3,g,cap,rfl,hg1,hg2,hg3,hn⟩;have HB3:Hid (Below w w w3):=HBW.out.drew.trans (hb3.mono HBW.out.drew.size);have HXW3:Hid (af w3 X 154 #[J V.b,J V.m,.slice ko kn kk]):=HXW.out.i.c hb3 HXW.out.i.f;have HRW3:Hid (af w3 w.heap.size 154 #[J 0,J 0,sN]):=HRW.out.i.c hb3 HRW.out.i.f;have HN3:Hid (aE w3 R (sT g n cap) Gr):=hn;clear hb3 hn HGR HXW HRW HBW hg1 hg2 hg3;refine hK.out _ _ (fun _=>(HX.out _ HB3.out).2) (fun hHeld=>?_);clear hK K;try simp only[pU]
  have hHeld:=hHeld θ;have d0:=HXW3.out.a 0 _ rfl;have d1:=HXW3.out.a 1 _ rfl;have d2:=HXW3.out.a 2 _ rfl;have f0:=HXW3.out.b 0;have f1:=HXW3.out.b 1;have f2:=HXW3.out.b 2;simp only[yf,yd,ye] at d0 d1 d2;refine tk 6 ?_;refine te 7 fun K hK=>?_;go_simp;refine hK.out _ _ (fun h=>absurd rfl h) (fun _=>?_);clear hK K;try simp only[pU]
  refine gl.done κ ?_ _;obtain⟨s1,s2⟩:=jX HXW3.out (J 0) (J B.a) (sT g n cap);have HXW:Hid (af (((w3.setCell ⟨X,0,none⟩ (J 0)).setCell ⟨X,1,none⟩ (J B.a)).setCell ⟨X,2,none⟩ (sT g n cap)) X 154 #[J 0,J B.a,sT g n cap]):=s1;have HRW:Hid (af (((w3.setCell ⟨X,0,none⟩ (J 0)).setCell ⟨X,1,none⟩ (J B.a)).setCell ⟨X,2,none⟩ (sT g n cap)) w.heap.size 154 #[J 0,J 0,sN]):=(s2.block _ hne.out).trans HRW3.out;have HBW:Hid (Below w w (((w3.setCell ⟨X,0,none⟩ (J 0)).setCell ⟨X,1,none⟩ (J B.a)).setCell ⟨X,2,none⟩ (sT g n cap))):=HB3.out.trans (s2.c hXle.out);have HNW:Hid (aE (((w3.setCell ⟨X,0,none⟩ (J 0)).setCell ⟨X,1,none⟩ (J B.a)).setCell ⟨X,2,none⟩ (sT g n cap)) R (sT g n cap) Gr):=⟨aj HN3.out.d fun y hy=>s2.block y (HN3.out.o hy HXW3.out θ),HN3.out.c⟩;clear s1 s2 HXW3 HRW3 HB3 HN3 d0 d1 d2 f0 f1 f2 hHeld;generalize ((w3.setCell ⟨X,0,none⟩ (J 0)).setCell ⟨X,1,none⟩ (J B.a)).setCell ⟨X,2,none⟩ (sT g n cap)=W2 at HXW HRW HBW HNW ⊢;have hx0:=(HX.out _ HBW.out).1;clear HX;have y0:=HXW.out.a 0 _ rfl;have hyf:=HXW.out.b 0;simp only[yf,yd] at y0;have hneX:w.heap.size≠X:=hne.out;have HX':Hid (af (W2.setCell ⟨X,0,none⟩ (J B.g)) X 154 #[J B.g,J B.a,sT g n cap]):=HXW.out.e 0 (J B.g);have HR':Hid (af (W2.setCell ⟨X,0,none⟩ (J B.g)) w.heap.size 154 #[J 0,J 0,sN]):=(Below.heap_setCell _ _ _ _ hneX).trans HRW.out;have y1:=HX'.out.a 0 _ rfl;have y2:=HX'.out.a 1 _ rfl;have y3:=HX'.out.a 2 _ rfl;have p0:=HR'.out.a 0 _ rfl;have p1:=HR'.out.a 1 _ rfl;have p2:=HR'.out.a 2 _ rfl;have pf0:=HR'.out.b 0;have pf1:=HR'.out.b 1;have pf2:=HR'.out.b 2;simp only[yf,yd,ye] at y1 y2 y3 p0 p1 p2;obtain⟨z1,z2⟩:=jX HR'.out (J B.g) (J B.a) (sT g n cap);have HFB:Hid (Below w w (((W2.setCell ⟨X,0,none⟩ (J B.g)).setCell ⟨w.heap.size,0,none⟩ (J B.g)).setCell ⟨w.heap.size,1,none⟩ (J B.a) |>.setCell ⟨w.heap.size,2,none⟩ (sT g n cap))):=(HBW.out.trans (((ej.d X W2).a 0 (J B.g)).c hXle.out)).trans (z2.c (yb _));have HFN:Hid (aE (((W2.setCell ⟨X,0,none⟩ (J B.g)).setCell ⟨w.heap.size,0,none⟩ (J B.g)).setCell ⟨w.heap.size,1,none⟩ (J B.a) |>.setCell ⟨w.heap.size,2,none⟩ (sT g n cap)) R (sT g n cap) Z.a):=by
   rw[HZ.out];exact⟨aj HNW.out.d fun g hg=>(z2.block g (HNW.out.o hg HRW.out θ)).trans (Below.heap_setCell _ _ _ _ (HNW.out.o hg HXW.out θ)),HNW.out.c⟩
  have r0:=z1.a 0 _ rfl;have r1:=z1.a 1 _ rfl;have r2:=z1.a 2 _ rfl;simp only[yf,yd,ye] at r0 r1 r2;clear z1 z2 HX' HR' HXW HRW HNW HBW;go_wp2_with fail
  refine bodyPost_ret (v:=.agg #[J B.g,J B.a,sT g n cap]) (by simp[results,Tryz.results238,go_sem,r0,r1,r2]) rfl ?_;exact⟨HFB.out,_,_,_,by rw[HZ.out],HFN.out⟩
 ·have HZ:Hid (Z={ V with b:=B.g }):=by rw[Hid,HCH.out,if_neg hv]
  have hx0:=(HX.out _ HBW.out).1;clear HCH HX HGR;have y0:=HXW.out.a 0 _ rfl;have hyf:=HXW.out.b 0;simp only[yf,yd] at y0;have hneX:w.heap.size≠X:=hne.out;have HX':Hid (af (W.setCell ⟨X,0,none⟩ (J B.g)) X 154 #[J B.g,J V.m,.slice ko kn kk]):=HXW.out.e 0 (J B.g);have HR':Hid (af (W.setCell ⟨X,0,none⟩ (J B.g)) w.heap.size 154 #[J 0,J 0,sN]):=(Below.heap_setCell _ _ _ _ hneX).trans HRW.out;have y1:=HX'.out.a 0 _ rfl;have y2:=HX'.out.a 1 _ rfl;have y3:=HX'.out.a 2 _ rfl;have p0:=HR'.out.a 0 _ rfl;have p1:=HR'.out.a 1 _ rfl;have p2:=HR'.out.a 2 _ rfl;have pf0:=HR'.out.b 0;have pf1:=HR'.out.b 1;have pf2:=HR'.out.b 2;simp only[yf,yd,ye] at y1 y2 y3 p0 p1 p2;obtain⟨z1,z2⟩:=jX HR'.out (J B.g) (J V.m) (.slice ko kn kk);have HFB:Hid (Below w w (((W.setCell ⟨X,0,none⟩ (J B.g)).setCell ⟨w.heap.size,0,none⟩ (J B.g)).setCell ⟨w.heap.size,1,none⟩ (J V.m) |>.setCell ⟨w.heap.size,2,none⟩ (.slice ko kn kk))):=(HBW.out.trans (((ej.d X W).a 0 (J B.g)).c hXle.out)).trans (z2.c (yb _));have HFN:Hid (aE (((W.setCell ⟨X,0,none⟩ (J B.g)).setCell ⟨w.heap.size,0,none⟩ (J B.g)).setCell ⟨w.heap.size,1,none⟩ (J V.m) |>.setCell ⟨w.heap.size,2,none⟩ (.slice ko kn kk)) R (.slice ko kn kk) Z.a):=by
   rw[HZ.out];exact⟨aj HNW.out.d fun g hg=>(z2.block g (HNW.out.o hg HRW.out θ)).trans (Below.heap_setCell _ _ _ _ (HNW.out.o hg HXW.out θ)),HNW.out.c⟩
  have r0:=z1.a 0 _ rfl;have r1:=z1.a 1 _ rfl;have r2:=z1.a 2 _ rfl;simp only[yf,yd,ye] at r0 r1 r2;clear z1 z2 HX' HR' HXW HRW HNW HBW;go_wp2_with fail
  refine bodyPost_ret (v:=.agg #[J B.g,J V.m,.slice ko kn kk]) (by simp[results,Tryz.results238,go_sem,r0,r1,r2]) rfl ?_;exact⟨HFB.out,_,_,_,by rw[HZ.out],HFN.out⟩
variable {x:Nat}{u:Value}
def PP.k(p:PP w F b S o){B':Bal}(f:o.c=some x)(l:S.d=some B)(c:B'.i=B.i)(d:af (w.setCell ⟨x,j,none⟩ u) x 234 (bu B' o.e)):To w F b o (w.setCell ⟨x,j,none⟩ u) { S with d:=some B' } o:=by
 have a:=p.f f l;have i:∀g,o.e.ownBlock=some g->g≠x:=fun g k e=>by
  obtain⟨r,q⟩:=kr a.d k;have m:_=_:=a.c;rw[<-e,q] at m;cases m
 refine p.m f l ((cW.a j u).e fun y _ n=>.inl n) d (by rw[c];exact a.f) (by rw[c];exact aj a.d fun g k=>Below.heap_setCell _ _ _ _ (i g k)) (by rw[c];exact a.e) fun _ h=>.inl h
def cW.g{w:World}{X i k:Nat}{v t:Value}:cW (fun x=>x=X) w (((w.setCell ⟨X,i,none⟩ u).setCell ⟨X,j,none⟩ v).setCell ⟨X,k,none⟩ t):=⟨rfl,rfl,rfl,ς,fun y _ a=>((Below.heap_setCell _ _ _ _ a).trans (Below.heap_setCell _ _ _ _ a)).trans (Below.heap_setCell _ _ _ _ a)⟩
def GG{q:Nat}(a:q<6):wrap64 (2 ^ min q 64)=Md.aO q:=by
 obtain⟨x,rfl,h, -⟩:=Ay a;rw[show min q 64=q by omega];exact h
def Md.lh.h{n:Nat}{v:Vote}(h:Md.lh n v B):B.i.length<=6:=yr h.e (tX _)
def si(p:PP w F b S o)(wf:Wf S)(ho:S.out=false)(s:o.c=some x)(X:S.d=some B)(hs:S.e.length<=800000):Do 196 #[pT b 0] (.tuple #[]) w F b o (S.MA B):=by
 have I:=p.a.a 13 _ rfl;rw[s] at I;simp only[eb,yf,yd,ye] at I;have C:=wf.lead B X;have L:Hid (∀d,Below w w d->d.cell? (aT x 4)=some (J B.c)/\d.cell? (aT x 3)=some (J B.a)):=fun d hw=>⟨((p.c hw).f s X).c.a 4 _ rfl,((p.c hw).f s X).c.a 3 _ rfl⟩;have E:Hid (∀d,Below w w d->Calls prog 237 #[pT b 0,J B.c] d fun e a8=>e=.returned (.bool (S.Nj B.c))/\Below d d a8):=fun d hw=>EM (p.c hw) wf C.answ;have H:Hid (S.MA B=if B.c=B.a && S.Nj B.c then (({ S with d:=some { B with e:=false,d:=Md.aO S.c },a:=B.b }:PS).Mj { B with e:=false,d:=Md.aO S.c }).installIf { B with e:=false,d:=Md.aO S.c } else S):=rfl;have HP:=ah p;have f:Hid (Wf S):=wf;have g:=ah s;have M:=ah X;have a6:=ah ho;clear p wf s X C ho;generalize S.MA B=Z at H ⊢;go_enter Tryz.func196,Tryz.ntmps196
 go_wp2_with fail
 by_cases v:B.c=B.a
 ·have O:=ah v;clear v;refine wp_region_held_drew (S:=fun d=>d.cell? (aT x 4)=some (J B.c)/\d.cell? (aT x 3)=some (J B.a)) rfl (L.out _ (Below.refl _ _).drew) (fun c=>?_)
  (iterate 10 refine ψ ?_)
  rw[show (B.c != B.a)=false by simp[O.out]]
  (iterate 5 refine ψ ?_)
  refine we 15 fun K hK=>?_;go_simp;refine(E.out _ (Below.refl _ _).drew).mono ?_;rintro e w1 ⟨rfl,a0⟩;have k:Hid (Below w w w1):=((Below.refl _ _).drew).trans (a0.mono ς);clear a0 E;cases D:S.Nj B.c with
  | false =>
    have Q:Hid (Z=S):=by have:=H.out;rw[D,Bool.and_false] at this;exact this
    refine hK.out _ _ (L.out _ k.out) (fun c=>?_);clear hK K H;try simp only[pU]
    (iterate 2 refine ψ ?_)
    refine wpAnyH_done κ ?_ _;clear c L;go_wp2_with fail
    (try simp only[Exit.inBlock,Exit.then])
    refine bodyPost_ret (results_none rfl _ _ _) rfl ?_;exact⟨rfl,o,by rw[Q.out];exact HP.out.d k.out⟩
  | true =>
    have Q:Hid (Z=(({ S with d:=some { B with e:=false,d:=Md.aO S.c },a:=B.b }:PS).Mj { B with e:=false,d:=Md.aO S.c }).installIf { B with e:=false,d:=Md.aO S.c }):=by have:=H.out;rw[D,show decide (B.c=B.a)=true by simp[O.out]] at this;exact this
    refine hK.out _ _ (L.out _ k.out) (fun c=>?_);clear hK K H;try simp only[pU]
    refine wk 16 ?_;refine wk 17 ?_;refine wpAnyH_done κ ?_ _;clear c L O D I;have P1:Hid (PP w1 F b S o):=HP.out.c k.out;have i:Hid (fD w1 (o.R F b) B x o.e o.a):=P1.out.f g.out M.out;have q1:=i.out.c.a 1 _ rfl;have f1:=i.out.c.b 1;simp only[bu,yf,yd,ye] at q1;have H2:Hid (To w F b o (w1.setCell ⟨x,1,none⟩ (.bool false)) { S with d:=some { B with e:=false } } o):=(HP.out.d k.out).a (P1.out.k g.out M.out rfl (i.out.c.e 1 _));clear i P1 k;go_wp2_with fail
    clear q1 f1;generalize w1.setCell ⟨x,1,none⟩ (.bool false)=w2 at H2 ⊢;have P2:Hid (PP w2 F b { S with d:=some { B with e:=false } } o):=H2.out.c;have U:Hid (Calls prog 238 #[pT x 0] w2 fun e d=>Below w2 w2 d/\∃l q r,e=.returned (.agg #[J B.b.b,J B.b.m,.slice l q r])/\aE d (o.R F b) (.slice l q r) B.b.a):=
     BM (B:={ B with e:=false }) (fun y hy=>P2.out.g hy) (P2.out.f g.out rfl) (by have:=(f.out.lead B M.out).h;show B.i.length<=1000;omega) (n:=S.n) (fun a ha=>((f.out.lead B M.out).c a ha).1) (f.out.lead B M.out).f f.out.c f.out.n0
    refine U.out.mono ?_;rintro e P ⟨V,l,q,r,rfl,hn⟩;have H3:Hid (To w F b o P { S with d:=some { B with e:=false } } o):=H2.out.a (P2.out.d V);have HN:Hid (aE P (o.R F b) (.slice l q r) B.b.a):=hn;have A:=H3.out.c.a;have a4:=A.a 10 _ rfl;have a2:=A.a 11 _ rfl;have a1:=A.a 12 _ rfl;have b0:=A.b 10;have a7:=A.b 11;have a9:=A.b 12;simp only[yf,yd,ye] at a4 a2 a1;have H4:Hid (To w F b o (((P.setCell ⟨b,10,none⟩ (J B.b.b)).setCell ⟨b,11,none⟩ (J B.b.m)).setCell ⟨b,12,none⟩ (.slice l q r)) { S with d:=some { B with e:=false },a:=B.b } { o with h:=.slice l q r }):=
     H3.out.a (H3.out.c.head (S':={ S with d:=some { B with e:=false },a:=B.b }) (vc':=.slice l q r) (lb':=o.c) cW.g (((A.e 10 _).e 11 _).e 12 _) rfl rfl rfl rfl rfl rfl HN.out (.inl ⟨rfl,rfl⟩))
    have t:Hid (fD (((P.setCell ⟨b,10,none⟩ (J B.b.b)).setCell ⟨b,11,none⟩ (J B.b.m)).setCell ⟨b,12,none⟩ (.slice l q r)) (({ o with h:=.slice l q r }:Pl).R F b) { B with e:=false } x o.e o.a):=H4.out.c.f g.out rfl;have d0:=H4.out.c.a.a 0 _ rfl;have d5:=t.out.c.a 5 _ rfl;have g5:=t.out.c.b 5;simp only[bu,yf,yd,ye] at d0 d5;have b1:(0:Int)<=(S.c:Int):=ω;have z:Hid (wrap64 (2 ^ min S.c 64)=Md.aO S.c):=GG (by have:=f.out.num;have:=f.out.c;omega);have H5:Hid (To w F b o ((((P.setCell ⟨b,10,none⟩ (J B.b.b)).setCell ⟨b,11,none⟩ (J B.b.m)).setCell ⟨b,12,none⟩ (.slice l q r)).setCell ⟨x,5,none⟩ (J (Md.aO S.c))) { S with d:=some { B with e:=false,d:=Md.aO S.c },a:=B.b } { o with h:=.slice l q r }):=H4.out.a (H4.out.c.k g.out rfl rfl (t.out.c.e 5 _));clear V hn A U P2 H2 HP t H4 H3 HN;go_wp2_with fail
    rw[z.out];clear d0 d5 g5 a4 a2 a1 b0 a7 a9 z;generalize (((P.setCell ⟨b,10,none⟩ (J B.b.b)).setCell ⟨b,11,none⟩ (J B.b.m)).setCell ⟨b,12,none⟩ (.slice l q r)).setCell ⟨x,5,none⟩ (J (Md.aO S.c))=w5 at H5 ⊢;have C:Hid (Md.lh S.n S.a B):=f.out.lead B M.out;have N:Hid (Wf { S with d:=some { B with e:=false,d:=Md.aO S.c },a:=B.b }):=f.out.a5 C.out;have W:Hid (Calls prog 197 #[pT b 0] w5 fun e d=>e=.returned (.tuple #[])/\∃o6,To w F b o d (({ S with d:=some { B with e:=false,d:=Md.aO S.c },a:=B.b }:PS).Mj { B with e:=false,d:=Md.aO S.c }) o6/\o6.c=some x):=by
     refine(kS H5.out.c N.out (x:=x) (B:={ B with e:=false,d:=Md.aO S.c }) g.out rfl C.out.d.2.1 (by show S.e.length<=_;omega)).mono ?_;rintro e d ⟨rfl,b3,h⟩;exact⟨rfl,_,H5.out.a h,g.out⟩
    refine W.out.mono ?_;rintro e w6 ⟨rfl,o6,h6,a5⟩;have a3:Hid (Calls prog 239 #[pT b 0] w6 fun e d=>e=.returned (.tuple #[])/\∃Y,To w F b o d Z Y):=by
     have G:Sends ({ S with d:=some { B with e:=false,d:=Md.aO S.c },a:=B.b }:PS) (({ S with d:=some { B with e:=false,d:=Md.aO S.c },a:=B.b }:PS).Mj { B with e:=false,d:=Md.aO S.c }) ((jO ({ S with d:=some { B with e:=false,d:=Md.aO S.c },a:=B.b }:PS) { B with e:=false,d:=Md.aO S.c }).length * 1):=Md.bK _ 1 (fun T _=>Md.ak T _) _ _;have hk:=G.a;have b2:(jO ({ S with d:=some { B with e:=false,d:=Md.aO S.c },a:=B.b }:PS) { B with e:=false,d:=Md.aO S.c }).length<=6:=yr (gG _ S.n) f.out.c;refine(qtp h6.c (G.d N.out) (hk.out.trans a6.out) a5 (hk.f.trans rfl) (by rw[hk.c,hk.n];exact C.out.d.2.1) (by have h1:=G.b;have h2:({ S with d:=some { B with e:=false,d:=Md.aO S.c },a:=B.b }:PS).e.length<=800000:=hs;omega)).mono ?_;rintro e d ⟨rfl,Y,h'⟩;exact⟨rfl,Y,by rw[Q.out];exact h6.a h'⟩
    clear h6 a5 W N C H5 f g M Q a6;go_wp2_with fail
    refine a3.out.mono ?_;rintro e w7 ⟨rfl,h7⟩;have H7:Hid (∃Y,To w F b o w7 Z Y):=h7;clear h7 a3;go_wp2_with fail
    go_end0
    exact⟨rfl,H7.out⟩
 ·have Q:Hid (Z=S):=by have:=H.out;rw[show decide (B.c=B.a)=false by simp[v],Bool.false_and] at this;exact this
  clear E H;refine wp_region_held_drew (S:=fun d=>d.cell? (aT x 4)=some (J B.c)/\d.cell? (aT x 3)=some (J B.a)) rfl (L.out _ (Below.refl _ _).drew) (fun c=>?_)
  (iterate 10 refine ψ ?_)
  rw[show (B.c != B.a)=true by simp[v]]
  (iterate 8 refine ψ ?_)
  refine wpAnyH_done κ ?_ _;clear c L;go_wp2_with fail
  (try simp only[Exit.inBlock,Exit.then])
  refine bodyPost_ret (results_none rfl _ _ _) rfl ?_;exact⟨rfl,o,by rw[Q.out];exact HP.out.d (Below.refl _ _).drew⟩
def jh{x:Int}(c:0<=x)(a:x<1099511627776):IntKind.i64.wrap x=x:=by
 rw[IntKind.wrap_i64];omega
def DW(p:PP w F b S o)(W:Wf S)(ho:S.out=false)(hp:S.g<2147483640)(hs:S.e.length<=700000):Do 162 #[pT b 0] (.tuple #[]) w F b o S.M5:=by
 have hN:=W.p hp;have b7:=W.prom.1;have c2:=yg W.num W.c;have c9:=p.a.a 9 _ rfl;have c0:=p.a.a 0 _ rfl;simp only[yf,yd,ye] at c0 c9;have HE:Hid (IntKind.i64.wrap (IntKind.i64.wrap (IntKind.i64.wrap (IntKind.i64.wrap (S.g.tdiv 8)+1) * 8)+S.c)=(S.g / 8+1) * 8+S.c):=by
  have hq:=W.prom.2;unfold Hid;rw[Int.tdiv_eq_ediv_of_nonneg b7,jh (x:=S.g / 8) ω ω,jh (x:=S.g / 8+1) ω ω,jh (x:=(S.g / 8+1) * 8) ω ω,jh ω ω]
 have HJ:Hid (∀c,Below w w c->Calls prog 193 #[pT b 0,J ((S.g / 8+1) * 8+S.c)] c fun e d=>e=.returned (.tuple #[])/\∃Z,To w F b o d (S.Mx ((S.g / 8+1) * 8+S.c)) Z):=fun c l=>(p.d l).g (tQ (p.c l) _);have b3:Hid (∀c,Below w w c->c.cell? (aT b 9)=some (J S.g)/\c.cell? (aT b 0)=some (J S.c)):=fun c l=>⟨(p.c l).a.a 9 _ rfl,(p.c l).a.a 0 _ rfl⟩;have k:Hid (Wf S):=W;have c1:=ah ho;have d2:=ah hN;have a8:=ah hp;clear p W ho hN c9 c0 hp;go_enter Tryz.func162,Tryz.ntmps162
 go_wp2_with fail
 refine gl.b (fun c=>c.cell? (aT b 9)=some _/\c.cell? (aT b 0)=some _) 13 rfl (b3.out _ (Below.refl _ _).drew) (fun a=>?_)
 (iterate 13 refine χ ?_)
 refine te 13 fun K g=>?_;go_simp;rw[HE.out];refine(HJ.out _ (Below.refl _ _).drew).mono ?_;rintro e s ⟨rfl,o1,h1⟩;have I:=ah h1;clear h1 HJ b3;refine g.out _ _ (fun h=>absurd rfl h) (fun _=>?_);clear g K a;try simp only[pU]
 refine gl.done κ ?_ _;have c7:=I.out.c.a.a 7 _ rfl;have c8:=I.out.c.a.a 8 _ rfl;have c9:=I.out.c.a.a 9 _ rfl;have b8:=I.out.c.a.b 13;have v:Hid (∀c,Below s s c->c.cell? (aT b 9)=some (J ((S.g / 8+1) * 8+S.c))/\c.cell? (aT b 8)=some (J S.k)/\c.cell? (aT b 7)=some (J S.m)/\c.frozen? (aT b 13)=false/\c.cell? (aT b 13)=some (eb o1.c)):=fun c l=>by
  have h:=(I.out.c.c l).a;exact⟨h.a 9 _ rfl,h.a 8 _ rfl,h.a 7 _ rfl,h.b 13,h.a 13 _ rfl⟩
 have P:Hid (bits .andNot .i64 S.m S.k=Md.cX S.m S.k):=(cK k.out.mem k.out.sus).1;clear c7 c8 c9 b8;go_wp2_with fail
 refine gl.b (fun c=>c.cell? (aT b 9)=some (J ((S.g / 8+1) * 8+S.c))/\c.cell? (aT b 8)=some (J S.k)/\c.cell? (aT b 7)=some (J S.m)/\c.frozen? (aT b 13)=false/\c.cell? (aT b 13)=some (eb o1.c)) 22 rfl (v.out _ (Below.refl _ _).drew) (fun a=>?_)
 (iterate 18 refine χ ?_)
 rw[P.out];refine tw 18 ?_;refine te 19 fun K g=>?_;go_simp;have q:Hid (Below s s (s.alloc (.cells #[J ((S.g / 8+1) * 8+S.c),.bool true,J S.k,J (Md.cX S.m S.k),J 0,J 0,sN] 234)).drew):=((Below.refl _ _).alloc (yb _) _).drew;have X:Hid (af (s.alloc (.cells #[J ((S.g / 8+1) * 8+S.c),.bool true,J S.k,J (Md.cX S.m S.k),J 0,J 0,sN] 234)).drew s.heap.size 234 (bu ⟨((S.g / 8+1) * 8+S.c),true,S.k,Md.cX S.m S.k,0,0,[]⟩ (sN))):=(af.d s s.heap.size rfl 234 _).i;refine g.out _ _ (fun _=>v.out _ q.out) (fun a=>?_);clear g K;try simp only[pU]
 have a:=a θ;generalize (s.alloc (.cells #[J ((S.g / 8+1) * 8+S.c),.bool true,J S.k,J (Md.cX S.m S.k),J 0,J 0,sN] 234)).drew=w2 at q X a ⊢;refine te 20 fun K g=>?_;go_simp;refine g.out _ _ (fun _=>v.out _ q.out) (fun a=>?_);clear g K;try simp only[pU]
 have a:=a θ;refine te 21 fun K g=>?_;go_simp;refine g.out _ _ (fun _=>v.out _ q.out) (fun a=>?_);clear g K;try simp only[pU]
 have a:=a θ;obtain⟨-, -, -,c3,c5⟩:=v.out _ q.out;refine te 22 fun K g=>?_;go_simp;refine g.out _ _ (fun h=>absurd rfl h) (fun _=>?_);clear g K a;try simp only[pU]
 refine gl.done κ ?_ _;have H3:Hid (To w F b o (w2.setCell ⟨b,13,none⟩ (pT s 0)) { S.Mx ((S.g / 8+1) * 8+S.c) with d:=some ⟨((S.g / 8+1) * 8+S.c),true,S.k,Md.cX S.m S.k,0,0,[]⟩ } { o1 with c:=some s.heap.size,e:=sN,a:=[] }):=I.out.a (I.out.c.a1 q.out (yb _) rfl X.out);clear c3 c5 X q v I P;generalize w2.setCell ⟨b,13,none⟩ (pT s 0)=z at H3 ⊢;generalize s.heap.size=x at H3 ⊢;have B:Hid (({ o1 with c:=some x,e:=sN,a:=[] }:Pl).c=some x):=rfl;generalize ({ o1 with c:=some x,e:=sN,a:=[] }:Pl)=A at H3 B;have U:Hid (PP z F b { S.Mx ((S.g / 8+1) * 8+S.c) with d:=some ⟨((S.g / 8+1) * 8+S.c),true,S.k,Md.cX S.m S.k,0,0,[]⟩ } A):=H3.out.c;obtain⟨N,M,Q,H⟩:=U.out.vote.a;have c4:Hid (A.h=.slice N M Q):=H;obtain⟨r,hr,a1, -, -⟩:=U.out.e.m k.out.num;have D:S.Ml.length=S.n:=k.out.g.1;have L:Hid (∀c,Below z z c->Calls prog 119 #[pT b 0] c fun e d=>e=.returned (sT r S.n S.n)/\Below c c d):=fun c l=>(np (U.out.c l) hr).mono fun e d h=>⟨h.1,h.2.1⟩;have O:Hid (∀c,Below z z c->Calls prog 118 #[sT r S.n S.n] c fun e d=>∃t f,e=.returned (sT t S.n f)/\Below c c d/\aE d (A.R F b) (sT t S.n f) S.Ml):=fun c l=>by
  have a5:af c r 3 (ints S.Ml).toArray:=a1.c l a1.f;have h1:=rN r S.n S.Ml c a5.f (fun j u hj=>a5.a j u (by simpa using hj)) (by rw[D];exact k.out.c) (by rw[D];exact k.out.n0);rw[D] at h1;refine h1.mono ?_;rintro e d ⟨t,f,rfl,V,hb⟩;refine⟨t,f,rfl,hb,by rw[D];exact aD V (oI _),fun y hy=>?_⟩;have:t=y:=by simpa[Value.ownBlock] using hy
  subst this;exact U.out.g (yr l.size (V.lt t rfl).1)
 have a0:Hid (∀(c:World) (i:Value × List (Value × Value)),(∃S':PS,PP c F b S' { A with e:=i.1,a:=i.2 }/\S'.c=S.c/\S'.a=S.a)->c.cell? (aT b 13)=some (pT x 0)/\c.cell? (aT b 0)=some (J S.c)/\c.cell? (aT b 10)=some (J S.a.b)/\c.cell? (aT b 11)=some (J S.a.m)/\c.cell? (aT b 12)=some (.slice N M Q)):=by
  rintro c i ⟨S',pp,e1,e2⟩;have h:=pp.a;rw[e1,e2] at h;have b9:({ A with e:=i.1,a:=i.2 }:Pl).c=some x:=B.out;rw[b9] at h;have hv:({ A with e:=i.1,a:=i.2 }:Pl).h=.slice N M Q:=H;rw[hv] at h;exact⟨h.a 13 _ rfl,h.a 0 _ rfl,h.a 10 _ rfl,h.a 11 _ rfl,h.a 12 _ rfl⟩
 have G:Hid (∀c,Below z z c->c.cell? (aT b 13)=some (pT x 0)/\c.cell? (aT b 0)=some (J S.c)/\c.cell? (aT b 10)=some (J S.a.b)/\c.cell? (aT b 11)=some (J S.a.m)/\c.cell? (aT b 12)=some (.slice N M Q)):=fun c l=>a0.out c (A.e,A.a) ⟨_,U.out.c l,rfl,rfl⟩;have b1:Hid (∀c t f,Below z z c->aE c (A.R F b) (sT t S.n f) S.Ml->Calls prog 194 #[pT x 0,J S.c,.agg #[sT t S.n f,J S.a.b,J S.a.m,.slice N M Q]] c fun e d=>e=.returned (.tuple #[])/\(∃E,To w F b o d S.l E/\E.c=some x)/\(d.cell? (aT b 13)=some (pT x 0)/\d.cell? (aT b 0)=some (J S.c)/\d.cell? (aT b 10)=some (J S.a.b)/\d.cell? (aT b 11)=some (J S.a.m)/\d.cell? (aT b 12)=some (.slice N M Q))):=fun c t f l hn=>by
  have p':=U.out.c l;have hv:=p'.vote;rw[H] at hv;refine(AA p' B.out rfl c2 Md.bj.b (oI _) (S.Ml,S.a) hn hv).mono ?_;rintro e d ⟨rfl,i,h⟩;have hT:To w F b o d S.l { A with e:=i,a:=A.a++[(sT t S.n f,.slice N M Q)] }:=(H3.out.a (U.out.d l)).a h;exact⟨rfl,⟨_,hT,B.out⟩,a0.out d (i,_) ⟨_,hT.c,rfl,rfl⟩⟩
 clear hr a1 D H U H3 a0;go_wp2_with fail
 refine wp_region_held_drew (S:=fun c=>c.cell? (aT b 13)=some (pT x 0)/\c.cell? (aT b 0)=some (J S.c)/\c.cell? (aT b 10)=some (J S.a.b)/\c.cell? (aT b 11)=some (J S.a.m)/\c.cell? (aT b 12)=some (.slice N M Q)) rfl (G.out _ (Below.refl _ _).drew) (fun a=>?_)
 (iterate 9 refine ψ ?_);refine wk 11 ?_;refine wk 12 ?_;refine wk 13 ?_;refine wk 14 ?_
 refine we 9 fun K g=>?_;go_simp;refine(L.out _ (Below.refl _ _).drew).mono ?_;rintro e w4 ⟨rfl,b6⟩;have C:Hid (Below z z w4):=((Below.refl _ _).drew).trans (b6.mono ς);clear b6 L;refine g.out _ _ (G.out _ C.out) (fun a=>?_);clear g K;try simp only[pU]
 refine we 10 fun K g=>?_;go_simp;refine(O.out _ C.out).mono ?_;rintro e w5 ⟨t,f,rfl,a7,b5⟩;have a2:Hid (Below z z w5):=C.out.trans (a7.mono C.out.size);have a6:Hid (aE w5 (A.R F b) (sT t S.n f) S.Ml):=b5;clear a7 b5 O;refine g.out _ _ (G.out _ a2.out) (fun a=>?_);clear g K;try simp only[pU]
 refine wk 15 ?_;refine we 16 fun K g=>?_;go_simp;refine(b1.out w5 t f a2.out a6.out).mono ?_;rintro e w6 ⟨rfl,b0,a4⟩;have H6:Hid (∃E,To w F b o w6 S.l E/\E.c=some x):=b0;clear b0 b1 a6 G;refine g.out _ _ a4 (fun a=>?_);clear g K;try simp only[pU]
 refine wpAnyH_done κ ?_ _;clear a a4 C a2 c4 B;obtain⟨E,h6,a3⟩:=H6.out;have H7:Hid (To w F b o w6 S.l E):=h6;have a9:Hid (E.c=some x):=a3;have b4:Hid (Calls prog 195 #[pT b 0] w6 fun e c=>e=.returned (.tuple #[])/\∃c6,To w6 F b E c (S.l.Mi S.p) { E with d:=c6 }):=mH h6.c (k.out.y a8.out) a3 rfl (by show S.e.length<=_;omega);clear h6 a3 H6;go_wp2_with fail
 refine b4.out.mono ?_;rintro e w7 ⟨rfl,d1,h7⟩;have b2:Hid (Calls prog 196 #[pT b 0] w7 fun e c=>e=.returned (.tuple #[])/\∃Z,To w F b o c S.M5 Z):=by
  have Y:Sends S.l (S.l.Mi S.p) ((dt S.l S.p).length * 1):=Md.bK _ 1 (fun T _=>Md.ak T _) _ _;have hk:=Y.a;have d0:(dt S.l S.p).length<=6:=yr (gG _ S.n) k.out.c;refine(si h7.c (Y.d (k.out.y a8.out)) (hk.out.trans c1.out) (x:=x) (B:=S.p) a9.out (hk.f.trans rfl) (by have h1:=Y.b;have h2:S.l.e.length<=700000:=hs;omega)).mono ?_;rintro e c ⟨rfl,Z,h'⟩;exact⟨rfl,Z,(H7.out.a h7).a h'⟩
 clear h7 b4 H7 a9;go_wp2_with fail
 refine b2.out.mono ?_;rintro e w8 ⟨rfl,h8⟩;have H8:Hid (∃Z,To w F b o w8 S.M5 Z):=h8;clear h8 b2;go_wp2_with fail
 go_end0
 exact⟨rfl,H8.out⟩
