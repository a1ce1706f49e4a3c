import Derived.Test.YtoklolfaemhfnaaGreatDoorZaw
set_option maxRecDepth 100000
set_option maxHeartbeats 0
set_option linter.defProp false
open Go.Proofs.Tryz (prog)
namespace Go.Proofs.YtoklolfaemhfnaaGreatDoor
section
open Go.RowKit
open Md (PS Vote Bal Lft Wf MsgW Sends)
variable {w w':World}{F:Nat->Prop}{b:Nat}{S:PS}{o:Pl}
def tU(p:PP w F b S o)(l:Wf S){x:Nat}{B:Bal}(a:o.c=some x)(i:S.d=some B)(v:S.e.length<=900000):Do 163 #[pT b 0] (.tuple #[]) w F b o (S.Mr B):=by
 have f:=p.a.a 13 _ rfl;rw[a] at f;have m:=(p.f a i).c.a 1 _ rfl;simp only[eb,bu,yf,yd,ye] at f m;have q:Hid (Do 195 _ _ w F b o _):=(mH p l a i v).mono fun e y h=>⟨h.1,h.2.elim fun s h=>⟨_,h⟩⟩;have r:Hid (B.e=false->Do 197 _ _ w F b o _):=fun c=>(kS p l a i ((l.lead B i).cut c) v).mono fun e y h=>⟨h.1,h.2.elim fun s h=>⟨_,h⟩⟩;have g:Hid (S.Mr B=if B.e then S.Mi B else S.Mj B):=rfl;clear p l a i;generalize S.Mr B=Z at g ⊢;cases c:B.e with
 | true =>
   have k:Hid (Z=S.Mi B):=by have:=g.out;rw[c] at this;exact this
   rw[c] at m;clear g r c;go_enter Tryz.func163,Tryz.ntmps163
   go_wp2_with fail
   refine q.out.mono ?_;rintro e u ⟨rfl,j⟩;have n:Hid (∃t,To w F b o u Z t):=by rw[k.out];exact j
   clear j q k;go_wp2_with fail
   go_end0
   exact⟨rfl,n.out⟩
 | false =>
   have k:Hid (Z=S.Mj B):=by have:=g.out;rw[c] at this;exact this
   have d:=ah (r.out c);rw[c] at m;clear g r q c;go_enter Tryz.func163,Tryz.ntmps163
   go_wp2_with fail
   refine d.out.mono ?_;rintro e u ⟨rfl,j⟩;have n:Hid (∃t,To w F b o u Z t):=by rw[k.out];exact j
   clear j d k;go_wp2_with fail
   go_end0
   exact⟨rfl,n.out⟩
def qF(p:PP w F b S o)(O:Wf S)(U:CH w)(T:S.out=false)(W:S.e.length<=700000):Do 109 #[pT b 0] (.tuple #[]) w F b o S.Me:=by
 have V:=ah (Cq p O U);have P:Hid (∀f,Below w w f->Calls prog 161 #[pT b 0] f fun e y=>e=.returned (.bool S.Nb)/\Below f f y):=fun f s=>ET (p.c s);have m:Hid (∀f,Below w w f->f.cell? (aT b 9)=some (J S.g)):=fun f s=>(p.c s).a.a 9 _ rfl;have a:Hid (∀f,Below w w f->f.cell? (aT b 13)=some (eb o.c)):=fun f s=>(p.c s).a.a 13 _ rfl;have v:Hid (∀f,Below w w f->S.g<2147483640->Calls prog 162 #[pT b 0] f fun e y=>e=.returned (.tuple #[])/\∃u,To w F b o y S.M5 u):=fun f s M=>(p.d s).g (DW (p.c s) O T M W);have i:Hid (∀f x B,Below w w f->o.c=some x->S.d=some B->Calls prog 163 #[pT b 0] f fun e y=>e=.returned (.tuple #[])/\∃u,To w F b o y (S.Mr B) u):=fun f x B s Q r=>(p.d s).g (tU (p.c s) O Q r ω);have D:Hid (∀f,Below w w f->∃u,To w F b o f S u):=fun f s=>⟨o,p.d s⟩;have h:Hid ((o.c=none/\S.d=none)\/∃x B,o.c=some x/\S.d=some B):=p.lead.cases.imp id fun ⟨x,B,Q,r,_⟩=>⟨x,B,Q,r⟩;have A:Hid (S.Me=if S.M4 && S.Nb && decide (S.g<2147483640) then S.M5 else match S.d with|some b=>S.Mr b|none=>S):=rfl;clear p O U T;generalize S.Me=Z at A ⊢;go_enter Tryz.func109,Tryz.ntmps109
 go_wp2_with fail
 refine V.out.mono ?_;rintro e N ⟨rfl,H⟩;have t:=ah H;clear H V;cases C:S.M4 with
 | false =>
   have g:Hid (Z=match S.d with|some b=>S.Mr b|none=>S):=by have:=A.out;rw[C,Bool.false_and,Bool.false_and] at this;exact this
   clear A C P v;have c:=a.out N t.out;rcases h.out with ⟨j,k⟩|⟨x,B,j,k⟩
   ·rw[j] at c;rw[Hid,k] at g;have d:=ah g;simp only[eb] at c;clear i h j k m a g;go_wp2_with fail
    go_end0
    exact⟨rfl,by rw[d.out];exact D.out N t.out⟩
   ·rw[j] at c;rw[Hid,k] at g;have d:=ah g;simp only[eb] at c;have l:=i.out N x B t.out j k;have n:=ah l;clear i h j k m a g l;go_wp2_with fail
    refine n.out.mono ?_;rintro e z ⟨rfl,r⟩;have E:Hid (∃u,To w F b o z Z u):=by rw[d.out];exact r
    clear r n d;go_wp2_with fail
    go_end0
    exact⟨rfl,E.out⟩
 | true =>
   go_wp2_with fail
   refine(P.out N t.out).mono ?_;rintro e z ⟨rfl,L⟩;have q:=ah (t.out.trans (L.mono t.out.size));clear L P;cases G:S.Nb with
   | false =>
     have g:Hid (Z=match S.d with|some b=>S.Mr b|none=>S):=by have:=A.out;rw[C,G,Bool.and_false,Bool.false_and] at this;exact this
     clear A v C G;have c:=a.out z q.out;rcases h.out with ⟨j,k⟩|⟨x,B,j,k⟩
     ·rw[j] at c;rw[Hid,k] at g;have d:Hid (Z=S):=g;simp only[eb] at c;clear i h j k m a g;go_wp2_with fail
      go_end0
      exact⟨rfl,by rw[d.out];exact D.out z q.out⟩
     ·rw[j] at c;rw[Hid,k] at g;have d:=ah g;simp only[eb] at c;have l:=i.out z x B q.out j k;have n:Hid (Calls prog 163 _ _ _):=l;clear i h j k m a g l;go_wp2_with fail
      refine n.out.mono ?_;rintro e I ⟨rfl,r⟩;have E:Hid (∃u,To w F b o I Z u):=by rw[d.out];exact r
      clear r n d;go_wp2_with fail
      go_end0
      exact⟨rfl,E.out⟩
   | true =>
     have X:=m.out z q.out;by_cases M:S.g<2147483640
     ·have g:Hid (Z=S.M5):=by have:=A.out;rw[C,G,show decide (S.g<2147483640)=true by simp[M]] at this;exact this
      have K:Hid (Calls prog 162 _ _ _):=v.out z q.out M;clear A v i h a m C G;go_wp2_with fail
      refine K.out.mono ?_;rintro e I ⟨rfl,r⟩;have E:Hid (∃u,To w F b o I Z u):=by rw[g.out];exact r
      clear r K g;go_wp2_with fail
      go_end0
      exact⟨rfl,E.out⟩
     ·have R:decide (S.g<2147483640)=false:=by simp[M]
      have g:Hid (Z=match S.d with|some b=>S.Mr b|none=>S):=by have:=A.out;rw[C,G,R] at this;exact this
      clear A v C G R;have c:=a.out z q.out;rcases h.out with ⟨j,k⟩|⟨x,B,j,k⟩
      ·rw[j] at c;rw[Hid,k] at g;have d:Hid (Z=S):=g;simp only[eb] at c;clear i h j k m a g;go_wp2_with fail
       go_end0
       exact⟨rfl,by rw[d.out];exact D.out z q.out⟩
      ·rw[j] at c;rw[Hid,k] at g;have d:=ah g;simp only[eb] at c;have l:=i.out z x B q.out j k;have n:Hid (Calls prog 163 _ _ _):=l;clear i h j k m a g l;go_wp2_with fail
       refine n.out.mono ?_;rintro e I ⟨rfl,r⟩;have E:Hid (∃u,To w F b o I Z u):=by rw[d.out];exact r
       clear r n d;go_wp2_with fail
       go_end0
       exact⟨rfl,E.out⟩
open Md (FrW)
variable {f:Codec.Frame}{rv cv mv:Value}
structure ud (w:World) (R:Nat->Prop) (f:Codec.Frame) (rv cv mv:Value):Prop where
 row:aE w R rv f.g
 cut:aE w R cv f.i
 msgs:bI w R mv f.d
def ud.a{R c:Nat->Prop}(h:ud w R f rv cv mv)(a:jo R c w w'):ud w' c f rv cv mv:=⟨h.row.f a,h.cut.f a,h.msgs.c a⟩
def LV(f:Codec.Frame)(rv cv mv:Value):Array Value:=#[J f.c,J f.f,J f.j,J f.b,J f.h,J f.a,J f.e,rv,cv,mv]
def PP.b2(p:PP w F b S o)(a:Array Value):Below w w (w.alloc (.cells a 165))/\PP (w.alloc (.cells a 165)) F b S o/\af (w.alloc (.cells a 165)) w.heap.size 165 a/\∀d T g,To (w.alloc (.cells a 165)) F b o d T g->af d w.heap.size 165 a:=by
 have i:Below _ w (w.alloc (.cells a 165)):=(Below.refl _ _).alloc (yb _) _;have c:=af.d w _ rfl 165 a;exact⟨i,p.c i,c,fun d T g h=>(h.e.block _ c.f fun e=>by have:=p.h e;omega).trans c⟩
def qo(p:PP w F b S o)(q:Wf S)(z:S.out=false)(i:FrW S.n f)(x:f.c=7)(j:ud w (o.R F b) f rv cv mv):Do 215 #[pT b 0,jq f rv cv mv] (.tuple #[]) w F b o (S.M3 f):=by
 obtain⟨P,T,K,rfl⟩:=j.row.a;obtain⟨N,V,H,rfl⟩:=j.cut.a;obtain⟨G,Q,L,rfl⟩:=j.msgs.a;obtain⟨l,s,r,a⟩:=p.b2 (LV f _ _ _);unfold LV at l s r a;have c:=j.a (p.d l).d;have C:=ah (lB s q c.msgs i.msgs (by have:=i.d;omega));have m:=Md.bf S f.d;have u:Hid (∀g E,To (w.alloc (.cells #[J f.c,J f.f,J f.j,J f.b,J f.h,J f.a,J f.e,.slice P T K,.slice N V H,.slice G Q L] 165)) F b o g _ E->(g.cell? _=some _/\g.cell? _=some _)/\Calls _ 258 _ g fun e k=>e=.returned _/\∃d,To w F b o k _ d):=fun g E h=>by
  have y:=a g _ _ h;refine⟨⟨y.a 3 _ rfl,y.a 8 _ rfl⟩,?_⟩;refine(qun h.c (q.f i.msgs) (m.out.trans z) i.members (c.cut.f h.d) (by rw[m.n];exact i.install x)).mono ?_;rintro e k ⟨rfl,d,I⟩;exact⟨rfl,d,((p.d l).a h).a I⟩
 have t:=r.a 9 _ rfl;simp only[yf,yd,ye] at t;clear p s r a j c q z i x m l;unfold jq;go_enter Tryz.func215,Tryz.ntmps215
 go_wp2_with fail
 refine C.out.mono ?_;rintro e U ⟨rfl,M,D⟩;obtain⟨⟨X,Y⟩,B⟩:=u.out U M D;have v:=ah B;clear D B u C t;go_wp2_with fail
 refine v.out.mono ?_;rintro e W ⟨rfl,A⟩;have O:=ah A;clear A v;go_wp2_with fail
 go_end0
 exact⟨rfl,O.out⟩
variable {wb:World}{X:Nat}{S':PS}{o1 o':Pl}{ro co mo:Option Addr}{rn rk cn ck mn mk:Nat}
def PP.b4(p:PP w F b S o){i:Array Value}(h:af w X 165 i):¬o.M b X:=fun g=>by
 have h:=h;rcases g with j|d
 ·rcases p.r j with ⟨_,_,c⟩|⟨_,e,c,a⟩ <;> rw[h] at c <;> cases c;simp at a
 ·obtain⟨_,e,c,a⟩:=p.q d;rw[h] at c;cases c;simp at a
structure Bx (w:World) (F:Nat->Prop) (b:Nat) (o:Pl) (f:Codec.Frame) (ro co mo:Option Addr) (rn rk cn ck mn mk:Nat) (X:Nat) (wb:World) (S:PS) (o1:Pl):Prop where
 a:To w F b o wb S o1
 c:af wb X 165 #[J f.c,J f.f,J f.j,J f.b,J f.h,J f.a,J f.e,.slice ro rn rk,.slice co cn ck,.slice mo mn mk]
 fr:ud wb (o1.R F b) f (.slice ro rn rk) (.slice co cn ck) (.slice mo mn mk)
def Bx.step(h:Bx w F b o f ro co mo rn rk cn ck mn mk X wb S o1)(k:To wb F b o1 w' S' o'):Bx w F b o f ro co mo rn rk cn ck mn mk X w' S' o':=
 ⟨h.a.a k,(k.e.block X h.c.f (h.a.c.b4 h.c)).trans h.c,h.fr.a k.d⟩
def Bx.e(h:Bx w F b o f ro co mo rn rk cn ck mn mk X wb S o1)(a:Below wb wb w'):Bx w F b o f ro co mo rn rk cn ck mn mk X w' S o1:=h.step (h.a.c.d a)
def Bx.d(h:Bx w F b o f ro co mo rn rk cn ck mn mk X wb S o1)(n:Nat):Bx w F b o f ro co mo rn rk cn ck mn mk X (wb.drewN n) S o1:=h.e (below_drewN (Below.refl _ _) n)
def PP.bx(p:PP w F b S o)(d:ud w (o.R F b) f (.slice ro rn rk) (.slice co cn ck) (.slice mo mn mk)):Bx w F b o f ro co mo rn rk cn ck mn mk w.heap.size (w.alloc (.cells #[J f.c,J f.f,J f.j,J f.b,J f.h,J f.a,J f.e,.slice ro rn rk,.slice co cn ck,.slice mo mn mk] 165)) S o:=by
 obtain⟨a, -,c, -⟩:=p.b2 _;exact⟨p.d a,c,d.a (p.d a).d⟩
def EB(S:PS)(m:Codec.Msg):(S.MX m).e=S.e:=by unfold PS.MX;split <;> rfl
def nO(S:PS)(l:List Codec.Msg):(S.Mc l).e=S.e:=by
 unfold PS.Mc;induction l generalizing S with
 |nil=>rfl
 |cons m l a=>exact(a _).trans (EB S m)
def qW(p:PP w F b S o)(wf:Wf S)(hf:FrW S.n f)(hk:f.c=5){rv cv mv:Value}(H:ud w (o.R F b) f rv cv mv)(hs:S.e.length<=900000):Do 213 #[pT b 0,jq f rv cv mv] (.tuple #[]) w F b o (S.MK f):=by
 obtain⟨ro,rn,rk,rfl⟩:=H.row.a;obtain⟨t,v,x,rfl⟩:=H.cut.a;obtain⟨mo,W,mk,rfl⟩:=H.msgs.a;have r:=ah (p.bx H);have N:Hid (Wf S):=wf;have j:=ah hf;have HK:=ah hk;have D:Hid (S.MK f=if f.a<S.g then S else (({ S.Mx f.a with a:=⟨f.a,f.b,f.i⟩ }:PS).Mc f.d).MZ ⟨6,0,f.f,0,S.b,f.a,0,[],[],[]⟩):=rfl;clear p H wf hf hk;generalize S.MK f=Z at D ⊢;unfold jq;go_enter Tryz.func213,Tryz.ntmps213
 refine wp_seq_k fun K z=>?_;have L:=ah z;clear z;go_wp2_with fail
 refine L.out _ _ ?_;clear L K;generalize w.alloc _=wb at r ⊢;generalize w.heap.size=X at r ⊢;have c9:=r.out.a.c.a.a 9 _ rfl;have G:=r.out.c.a 5 _ rfl;simp only[yf,yd,ye] at c9 G;by_cases l:f.a<S.g
 ·have Q:Hid (Z=S):=by rw[Hid,D.out,if_pos l]
  clear D;go_wp2_with fail
  go_quiet (fail)
  go_wp2_with fail
  (try simp only[Exit.inBlock,Exit.then])
  refine bodyPost_ret (results_none rfl _ _ _) rfl ?_;exact⟨rfl,o,by rw[Q.out];exact(r.out.d nq).a⟩
 ·have Q:Hid (Z=(({ S.Mx f.a with a:=⟨f.a,f.b,f.i⟩ }:PS).Mc f.d).MZ ⟨6,0,f.f,0,S.b,f.a,0,[],[],[]⟩):=by rw[Hid,D.out,if_neg l]
  clear D;go_wp2_with fail
  go_quiet (fail)
  go_wp2_with fail
  have m:=ah (r.out.d nq);clear r c9 G l;have HJ:Hid (Do 193 #[pT b 0,J f.a] (.tuple #[]) (wb.drewN nq) F b o (S.Mx f.a)):=tQ m.out.a.c _;refine HJ.out.mono ?_;rintro e w2 ⟨rfl,o2,h2⟩;have a:=ah (m.out.step h2);clear h2 HJ m;have G:=a.out.c.a 5 _ rfl;have d3:=a.out.c.a 3 _ rfl;have d8:=a.out.c.a 8 _ rfl;have i:=a.out.a.c.a;have M:=i.a 10 _ rfl;have I:=i.a 11 _ rfl;have E:=i.a 12 _ rfl;have Y:=i.b 10;have U:=i.b 11;have V:=i.b 12;simp only[yf,yd,ye] at d3 G d8 M I E;have c:Hid (Bx w F b o f ro t mo rn rk v x W mk X (((w2.setCell ⟨b,10,none⟩ (J f.a)).setCell ⟨b,11,none⟩ (J f.b)).setCell ⟨b,12,none⟩ (.slice t v x)) { S.Mx f.a with a:=⟨f.a,f.b,f.i⟩ } { o2 with h:=.slice t v x }):=
   a.out.step (a.out.a.c.head (S':={ S.Mx f.a with a:=⟨f.a,f.b,f.i⟩ }) (vc':=.slice t v x) (lb':=o2.c) cW.g (((i.e 10 _).e 11 _).e 12 _) rfl rfl rfl rfl rfl rfl a.out.fr.cut (.inl ⟨rfl,rfl⟩))
  have d9:=c.out.c.a 9 _ rfl;simp only[yf,yd,ye] at d9;clear i a;go_wp2_with fail
  clear d3 G d8 d9 M I E Y U V;generalize ((w2.setCell _ _).setCell _ _).setCell _ _=w3 at c ⊢;generalize ({ o2 with h:=.slice t v x }:Pl)=o3 at c;have a0:Hid (Wf ({ S.Mx f.a with a:=⟨f.a,f.b,f.i⟩ }:PS)):=(N.out.s j.out.ballot).e (v:=⟨f.a,f.b,f.i⟩) (L:=(S.Mx f.a).d) ⟨j.out.ballot.1,fun _=>(j.out.a HK.out).2,j.out.members⟩ fun B hB=>by
   have k:=(N.out.s j.out.ballot).lead B hB;exact⟨k.f,k.c,fun _=>(j.out.a HK.out).2,k.num,k.out,k.asked,k.answ,k.acc,k.e⟩
  have C:Hid (Do 257 #[pT b 0,.slice mo W mk] (.tuple #[]) w3 F b o3 (({ S.Mx f.a with a:=⟨f.a,f.b,f.i⟩ }:PS).Mc f.d)):=lB c.out.a.c a0.out c.out.fr.msgs j.out.msgs (by have:=j.out.d;omega);refine C.out.mono ?_;rintro e w4 ⟨rfl,o4,h4⟩;have q:=ah (c.out.step h4);have kp:Hid (Md.dh ({ S.Mx f.a with a:=⟨f.a,f.b,f.i⟩ }:PS) (({ S.Mx f.a with a:=⟨f.a,f.b,f.i⟩ }:PS).Mc f.d)):=Md.bf _ _;have T:Hid ((({ S.Mx f.a with a:=⟨f.a,f.b,f.i⟩ }:PS).Mc f.d).e.length<=900000):=by
   have:(({ S.Mx f.a with a:=⟨f.a,f.b,f.i⟩ }:PS).Mc f.d).e=({ S.Mx f.a with a:=⟨f.a,f.b,f.i⟩ }:PS).e:=nO _ _;rw[Hid,this];exact hs
  clear h4 C c;have s:Hid (∀d u T',Bx w F b o f ro t mo rn rk v x W mk X d T' u->T'.b=S.b->d.cell? (aT X 1)=some (J f.f)/\d.cell? (aT X 5)=some (J f.a)/\d.cell? (aT b 6)=some (J S.b)):=fun d u T' h hv=>by
   have h1:=h.a.c.a.a 6 _ rfl;simp only[yf,yd,ye,hv] at h1;exact⟨h.c.a 1 _ rfl,h.c.a 5 _ rfl,h1⟩
  have y:=ah kp.out.a;go_wp2_with fail
  refine wp_region_held_drew (S:=fun d=>d.cell? (aT X 1)=some (J f.f)/\d.cell? (aT X 5)=some (J f.a)/\d.cell? (aT b 6)=some (J S.b)) rfl (s.out _ _ _ (q.out.e (Below.refl _ _).drew) y.out) (fun g=>?_)
  (iterate 10 refine ψ ?_)
  refine we 10 fun K z=>?_;go_simp;have P:Hid (Calls prog 165 #[pT b 0,.agg #[J 6,J 0,J f.f,J 0,J S.b,J f.a,J 0,sN,sN,sN]] w4.drew fun e d=>e=.returned (.tuple #[])/\(∃u,To w F b o d Z u)/\d.cell? (aT X 1)=some (J f.f)/\d.cell? (aT X 5)=some (J f.a)/\d.cell? (aT b 6)=some (J S.b)):=by
   have A:=q.out.e (Below.refl _ _).drew;refine(oH A.a.c ⟨6,0,f.f,0,S.b,f.a,0,[],[],[]⟩ (by have:=T.out;omega) (rv:=sN) (cv:=sN) (mv:=sN) (.inl ⟨⟨_,_,rfl⟩,rfl⟩) (.inl ⟨⟨_,_,rfl⟩,rfl⟩) (.inl ⟨⟨_,_,rfl⟩,rfl⟩)).mono ?_;rintro e d ⟨rfl,u,h'⟩;have h6:=A.step h';exact⟨rfl,⟨u,by rw[Q.out];exact h6.a⟩,s.out _ _ _ h6 ((Md.j8 _ _).a.trans y.out)⟩
  refine P.out.mono ?_;rintro e w5 ⟨rfl,A,O⟩;have H5:=ah A;clear A P s q Q;refine z.out _ _ O (fun g=>?_);clear z K;try simp only[pU]
  refine wpAnyH_done κ ?_ _;clear g O;go_wp2_with fail
  go_end0
  exact⟨rfl,H5.out⟩
def ot(p:PP w F b S o)(wf:Wf S)(ho:S.out=false)(hf:FrW S.n f){rv cv mv:Value}(O:ud w (o.R F b) f rv cv mv)(hs:S.e.length<=900000):Do 214 #[pT b 0,jq f rv cv mv] (.tuple #[]) w F b o (S.Mk f):=by
 obtain⟨ro,rn,rk,rfl⟩:=O.row.a;obtain⟨co,cn,ck,rfl⟩:=O.cut.a;obtain⟨mo,mn,mk,rfl⟩:=O.msgs.a;have r:=ah (p.bx O);obtain⟨q,V,hq⟩:=hf.src;have z:Hid (f.f=(q:Int)/\q<6):=⟨hq,yg V wf.c⟩;have a2:0<=q:=ω;have t:Hid (Wf S):=wf;have U:=ah ho;have E:Hid ((o.c=none/\S.d=none)\/∃x B,o.c=some x/\S.d=some B):=p.lead.cases.imp id fun ⟨x,B,W,h2,_⟩=>⟨x,B,W,h2⟩;have M:Hid (S.Mk f=match S.d with|none=>S|some B=>if B.g=f.a && !B.e && Md.aV B.a f.f.toNat then ({ S with d:=some { B with d:=Md.j9 B.d (Md.aO f.f.toNat) } }:PS).installIf { B with d:=Md.j9 B.d (Md.aO f.f.toNat) } else S):=rfl;clear p O wf hf ho hq V;generalize S.Mk f=Z at M ⊢;unfold jq;go_enter Tryz.func214,Tryz.ntmps214
 refine wp_seq_k fun K y=>?_;have Q:=ah y;clear y;go_wp2_with fail
 refine Q.out _ _ ?_;clear Q K;generalize w.alloc _=wb at r ⊢;generalize w.heap.size=X at r ⊢;have d5:=r.out.c.a 5 _ rfl;have d1:=r.out.c.a 1 _ rfl;simp only[yf,yd,ye] at d1 d5;rw[z.out.1] at d1;have i:=ah (fun n=>pW (r.out.d n).a.c f.a);cases a:S.MY f.a with
 | false =>
   have C:Hid (Z=S):=by
    have h:=M.out;unfold PS.MY at a;match hl:S.d with
    |none=>rw[hl] at h;exact h
    | some B =>
      rw[hl] at h a;have:=a;have:decide (B.g=f.a)=false:=by simpa using this
      simp only[this,Bool.false_and,yH,if_false] at h;exact h
   rw[a] at i;clear M E a;go_wp2_with fail
   go_quiet ((go_at_call 256;exact Calls.quiet_of_same (i.out _)))
   go_wp2_with fail
   (try simp only[Exit.inBlock,Exit.then])
   refine bodyPost_ret (results_none rfl _ _ _) rfl ?_;exact⟨rfl,o,by rw[C.out];exact(r.out.d nq).a⟩
 | true =>
   rw[a] at i;obtain⟨x,B,v,I⟩:∃x B,o.c=some x/\S.d=some B:=E.out.elim (fun h=>by unfold PS.MY at a;rw[h.2] at a;cases a) id;have A:B.g=f.a:=by unfold PS.MY at a;rw[I] at a;simpa using a
   have d:=ah v;have G:=ah I;have l:Hid (Z=if !B.e && Md.aV B.a f.f.toNat then ({ S with d:=some { B with d:=Md.j9 B.d (Md.aO f.f.toNat) } }:PS).installIf { B with d:=Md.j9 B.d (Md.aO f.f.toNat) } else S):=by
    have h:=M.out;rw[I] at h;simp only[show decide (B.g=f.a)=true by simp[A],Bool.true_and] at h;exact h
   have s:=r.out.a.c.f v I;have D:=r.out.a.c.a.a 13 _ rfl;rw[v] at D;have g1:=s.c.a 1 _ rfl;have g3:=s.c.a 3 _ rfl;simp only[eb,bu,yf,yd,ye] at D g1 g3;have m:Hid (∀n,Calls prog 173 #[J B.a,J q] (wb.drewN n) fun e j=>e=.returned (.bool (Md.aV B.a q))/\j=wb.drewN n):=fun n=>gE B.a q _ (by have:=z.out.2;omega);clear M E a A v I s;cases u:B.e with
   | true =>
     have C:Hid (Z=S):=by have:=l.out;rw[u] at this;exact this
     rw[u] at g1;clear l m u;go_wp2_with fail
     go_quiet ((go_at_call 256;exact Calls.quiet_of_same (i.out _)))
     go_wp2_with fail
     (try simp only[Exit.inBlock,Exit.then])
     refine bodyPost_ret (results_none rfl _ _ _) rfl ?_;exact⟨rfl,o,by rw[C.out];exact(r.out.d nq).a⟩
   | false =>
     rw[u] at g1;cases H:Md.aV B.a q with
     | false =>
       have C:Hid (Z=S):=by have:=l.out;rw[u,z.out.1,CM,H] at this;exact this
       rw[H] at m;clear l u H;go_wp2_with fail
       go_quiet (first|(go_at_call 256;exact Calls.quiet_of_same (i.out _))|(go_at_call 173;exact Calls.quiet_of_same (m.out _)))
       go_wp2_with fail
       (try simp only[Exit.inBlock,Exit.then])
       refine bodyPost_ret (results_none rfl _ _ _) rfl ?_;exact⟨rfl,o,by rw[C.out];exact(r.out.d nq).a⟩
     | true =>
       have C:Hid (Z=({ S with d:=some { B with d:=Md.j9 B.d (Md.aO q) } }:PS).installIf { B with d:=Md.j9 B.d (Md.aO q) }):=by have:=l.out;rw[z.out.1,CM,if_pos (by rw[u,H];rfl)] at this;exact this
       rw[H] at m;clear l H;have HG:=ah u;clear u;go_wp2_with fail
       go_quiet (first|(go_at_call 256;exact Calls.quiet_of_same (i.out _))|(go_at_call 173;exact Calls.quiet_of_same (m.out _)))
       go_wp2_with fail
       have g:=ah (r.out.d nq);clear r d1 d5 D g1 g3 i m;generalize wb.drewN nq=P at g ⊢;have HF:Hid (∀j,Below P P j->j.cell? (aT b 13)=some (pT x 0)/\j.cell? (aT x 5)=some (J B.d)/\j.cell? (aT X 1)=some (J q)):=fun j hw=>by
        have h:=g.out.e hw;have N:=h.a.c.a.a 13 _ rfl;have W:=h.c.a 1 _ rfl;rw[d.out] at N;simp only[yf,yd,ye,z.out.1] at W;exact⟨N,(h.a.c.f d.out G.out).c.a 5 _ rfl,W⟩
       have a0:P.drew.frozen? (aT x 5)=false:=((g.out.e (Below.refl _ _).drew).a.c.f d.out G.out).c.b 5;have L:Hid (bits .or .i64 B.d (IntKind.i64.wrap (2 ^ min q 64))=Md.j9 B.d (Md.aO q)):=by
        have hW:=t.out.lead B G.out;rw[Hid,(oE z.out.2).1,(cK hW.acc (oE z.out.2).2).2.2.1]
       have Y:Hid (Bx w F b o f ro co mo rn rk cn ck mn mk X ((P.setCell ⟨x,5,none⟩ (J (Md.j9 B.d (Md.aO q)))).drew) { S with d:=some { B with d:=Md.j9 B.d (Md.aO q) } } o):=by
        have s:=g.out.a.c.f d.out G.out;exact(g.out.step (g.out.a.c.k d.out G.out (B':={ B with d:=Md.j9 B.d (Md.aO q) }) rfl (s.c.e 5 _))).e (Below.refl _ _).drew
       refine gl.b (fun j=>j.cell? (aT b 13)=some (pT x 0)/\j.cell? (aT x 5)=some (J B.d)/\j.cell? (aT X 1)=some (J q)) 13 rfl (HF.out _ (Below.refl _ _).drew) (fun c=>?_)
       (iterate 11 refine χ ?_)
       refine te 11 fun K y=>?_;go_simp;refine y.out _ _ (fun _=>HF.out _ (Below.refl _ _).drew) (fun c=>?_);clear y K;try simp only[pU]
       have c:=c θ;refine tw 12 ?_;refine te 13 fun K y=>?_;go_simp;refine y.out _ _ (fun h=>absurd rfl h) (fun _=>?_);clear y K c;try simp only[pU]
       refine gl.done κ ?_ _;rw[L.out];clear L a0 HF g;generalize (P.setCell ⟨x,5,none⟩ (J (Md.j9 B.d (Md.aO q)))).drew=w2 at Y ⊢;have T:Hid (Calls prog 239 #[pT b 0] w2 fun e j=>e=.returned (.tuple #[])/\∃o',To w F b o j Z o'):=by
        have k:=t.out.lead B G.out;have a1:Wf ({ S with d:=some { B with d:=Md.j9 B.d (Md.aO q) } }:PS):=t.out.e (v:=S.a) t.out.vote fun B' e=>by
         cases e;exact⟨k.f,k.c,k.cut,k.num,k.out,k.asked,k.answ,k.acc.f (.c z.out.2),k.e⟩
        refine(qtp Y.out.a.c a1 U.out d.out rfl (k.cut HG.out) hs).mono ?_;rintro e j ⟨rfl,o',h'⟩;exact⟨rfl,o',by rw[C.out];exact Y.out.a.a h'⟩
       clear Y C d G HG t U;go_wp2_with fail
       refine T.out.mono ?_;rintro e w3 ⟨rfl,h3⟩;have H3:=ah h3;clear h3 T;go_wp2_with fail
       go_end0
       exact⟨rfl,H3.out⟩
def qX(p:PP w F b S o)(A:Wf S)(r:FrW S.n f)(D:f.c=2)(i:ud w (o.R F b) f rv cv mv):Do 210 #[pT b 0,jq f rv cv mv] (.tuple #[]) w F b o (S.ML f):=by
 obtain⟨ro,V,P,rfl⟩:=i.row.a;obtain⟨Q,W,ck,rfl⟩:=i.cut.a;obtain⟨Y,U,mk,rfl⟩:=i.msgs.a;have c:=ah (p.bx i);obtain⟨q,m,y⟩:=r.src;have u:Hid (f.f=(q:Int)/\q<S.n):=⟨y,m⟩;have k:Hid (Wf S):=A;have M:=ah r;have t:=ah (r.gossip D);have d:Hid (S.ML f=if (S.My q f.g).g<f.a then (S.My q f.g).MH f.a else S.My q f.g):=by
  have e:f.f.toNat=q:=ω;show S.ML f=_;rw[<-e];rfl
 clear p i A r D y m;generalize S.ML f=Z at d ⊢;unfold jq;go_enter Tryz.func210,Tryz.ntmps210
 refine wp_seq_k fun K B=>?_;have j:=ah B;clear B;go_wp2_with fail
 refine j.out _ _ ?_;clear j K;generalize w.alloc _=wb at c ⊢;generalize w.heap.size=X at c ⊢;have z:=c.out.c.a 7 _ rfl;have v:=c.out.c.a 1 _ rfl;simp only[yf,yd,ye] at v z;rw[u.out.1] at v;have g:=ah (pX c.out.a.c k.out u.out.2 c.out.fr.row t.out);go_wp2_with fail
 refine g.out.mono ?_;rintro e w1 ⟨rfl,O,C⟩;have a:=ah (c.out.step C);have x:=ah (k.out.i u.out.2 M.out.row);clear C g c v z;generalize S.My q f.g=T at a x d;have I:=a.out.c.a 5 _ rfl;have H:=a.out.a.c.a.a 9 _ rfl;simp only[yf,yd,ye] at I H;by_cases h:T.g<f.a
 ·have s:Hid (Z=T.MH f.a):=by rw[Hid,d.out,if_pos h]
  have l:Hid (∀n,Calls _ 236 _ _ fun e L=>e=.returned _/\∃G,To w F b o L Z G):=fun n=>by rw[s.out];exact(a.out.d n).a.g (qg (a.out.d n).a.c _)
  clear d s;go_wp2_with fail
  go_quiet (fail)
  go_wp2_with fail
  refine(l.out _).mono ?_;rintro e w2 ⟨rfl,E⟩;have N:=ah E;clear E l;go_wp2_with fail
  go_end0
  exact⟨rfl,N.out⟩
 ·have s:Hid (Z=T):=by rw[Hid,d.out,if_neg h]
  clear d;go_wp2_with fail
  go_quiet (fail)
  go_wp2_with fail
  go_end0
  exact⟨rfl,O,by rw[s.out];exact(a.out.d nq).a⟩
def xa(p:PP w F b S o)(wf:Wf S)(y:FrW S.n f)(U:f.c=1)(v:ud w (o.R F b) f rv cv mv):Do 209 #[pT b 0,jq f rv cv mv] (.tuple #[]) w F b o (S.MQ f):=by
 obtain⟨ro,rn,rk,rfl⟩:=v.row.a;obtain⟨co,cn,ck,rfl⟩:=v.cut.a;obtain⟨mo,mn,mk,rfl⟩:=v.msgs.a;have i:=ah (p.bx v);obtain⟨q,A,hq⟩:=y.src;have O:Hid (f.f=(q:Int)/\q<S.n):=⟨hq,A⟩;have z:Hid (Wf S):=wf;have HF:=ah y;have L:=ah ((y.data U).1);obtain⟨m,N,hM⟩:=(y.data U).2;have H:Hid (f.d=[m]/\MsgW S.n m):=⟨N,hM⟩;have l:Hid (S.MQ f=if ((S.My q f.g).MX m).h then (S.My q f.g).MX m else ((S.My q f.g).MX m).MG):=by
  have e:f.f.toNat=q:=ω;show S.MQ f=_;rw[<-e];unfold PS.MQ;rw[N];rfl
 clear p v wf y U hq A N hM;generalize S.MQ f=Z at l ⊢;unfold jq;go_enter Tryz.func209,Tryz.ntmps209
 refine wp_seq_k fun K hK=>?_;have x:=ah hK;clear hK;go_wp2_with fail
 refine x.out _ _ ?_;clear x K;generalize w.alloc _=wb at i ⊢;generalize w.heap.size=X at i ⊢;have d7:=i.out.c.a 7 _ rfl;have Q:=i.out.c.a 1 _ rfl;simp only[yf,yd,ye] at Q d7;rw[O.out.1] at Q;have s:=ah (pX i.out.a.c z.out O.out.2 i.out.fr.row L.out);go_wp2_with fail
 refine s.out.mono ?_;rintro e r ⟨rfl,o1,B⟩;have c:=ah (i.out.step B);have k:=ah (z.out.i O.out.2 HF.out.row);clear B s i Q d7;have j:=c.out.fr.msgs;rw[H.out.1] at j;obtain⟨g,rfl,V,hg,t,e0,e1,e2,e3,P⟩:∃g,mo=some ⟨g,0,none⟩/\mn=1/\g<r.heap.size/\∃t,r.cell? (aT g 0)=some _/\r.cell? (aT g 1)=some _/\r.cell? (aT g 2)=some t/\r.cell? (aT g 3)=some _/\aE r _ t m.c:=by
  rcases j with ⟨-,h⟩|⟨g,a1,hv,hg, -,hc⟩
  ·cases h
  ·injection hv with B D W;obtain⟨t,h0,I,Y,M,h4⟩:=hc 0 m rfl;exact⟨g,B,D,hg,t,h0,I,Y,M,h4⟩
 subst V;obtain⟨ta,tn,a0,rfl⟩:=P.a;have d9:=c.out.c.a 9 _ rfl;simp only[yf,yd,ye] at d9;have d:=ah (Ak c.out.a.c k.out H.out.2 P);have u:=ah (k.out.x H.out.2);generalize (S.My q f.g).MX m=T at d u l;clear P j;unfold aU at d;go_wp2_with fail
 refine d.out.mono ?_;rintro e w2 ⟨rfl,o2,D⟩;have C:=ah (c.out.a.a D);clear D d c k d9 e0 e1 e2 e3;have G:=C.out.c.a.a 5 _ rfl;simp only[yf,yd,ye] at G;cases a:T.h with
 | true =>
   have E:Hid (Z=T):=by have:=l.out;rw[a] at this;exact this
   rw[a] at G;clear l a;go_wp2_with fail
   go_end0
   exact⟨rfl,o2,by rw[E.out];exact C.out⟩
 | false =>
   have E:Hid (Z=T.MG):=by have:=l.out;rw[a] at this;exact this
   rw[a] at G;have HD:Hid (Calls prog 255 #[pT b 0] w2 fun e w'=>e=.returned (.tuple #[])/\∃o',To w F b o w' Z o'):=by rw[E.out];exact C.out.g (qK C.out.c u.out)
   clear l a E;go_wp2_with fail
   refine HD.out.mono ?_;rintro e w3 ⟨rfl,W⟩;have H3:=ah W;clear W HD;go_wp2_with fail
   go_end0
   exact⟨rfl,H3.out⟩
def tY(p:PP w F b S o)(wf:Wf S)(hf:FrW S.n f){rv cv E:Value}(O:ud w (o.R F b) f rv cv E)(hs:S.e.length<=900000):Do 211 #[pT b 0,jq f rv cv E] (.tuple #[]) w F b o (S.MR f):=by
 obtain⟨ro,rn,rk,rfl⟩:=O.row.a;obtain⟨co,cn,ck,rfl⟩:=O.cut.a;obtain⟨mo,mn,mk,rfl⟩:=O.msgs.a;have A:=ah (p.bx O);have C:Hid (Wf S):=wf;have P:=ah hf;have N:Hid (S.MR f=if f.a<S.g then S else ((S.Mx f.a).suspect f.b).MZ ⟨4,0,f.f,((S.Mx f.a).suspect f.b).a.m,((S.Mx f.a).suspect f.b).b,f.a,((S.Mx f.a).suspect f.b).a.b,((S.Mx f.a).suspect f.b).Ml,((S.Mx f.a).suspect f.b).a.a,((S.Mx f.a).suspect f.b).Mp⟩):=rfl;clear p O wf hf;generalize S.MR f=Z at N ⊢;unfold jq;go_enter Tryz.func211,Tryz.ntmps211
 refine wp_seq_k fun K l=>?_;have Q:=ah l;clear l;go_wp2_with fail
 refine Q.out _ _ ?_;clear Q K;generalize w.alloc _=wb at A ⊢;generalize w.heap.size=X at A ⊢;have c9:=A.out.a.c.a.a 9 _ rfl;have d5:=A.out.c.a 5 _ rfl;simp only[yf,yd,ye] at c9 d5;by_cases y:f.a<S.g
 ·have HZ:Hid (Z=S):=by rw[Hid,N.out,if_pos y]
  clear N;go_wp2_with fail
  go_quiet (fail)
  go_wp2_with fail
  (try simp only[Exit.inBlock,Exit.then])
  refine bodyPost_ret (results_none rfl _ _ _) rfl ?_;exact⟨rfl,o,by rw[HZ.out];exact(A.out.d nq).a⟩
 ·have x:=N.out;rw[if_neg y] at x;have j:Hid (((S.Mx f.a).suspect f.b).e.length<=900000):=hs;have q:Hid (Wf ((S.Mx f.a).suspect f.b)):=(C.out.s P.out.ballot).suspect P.out.members;have L:Hid (Wf (S.Mx f.a)):=C.out.s P.out.ballot;have HZ:Hid _:=x;clear N x;go_wp2_with fail
  go_quiet (fail)
  go_wp2_with fail
  have z:Hid (Bx w F b o f ro co mo rn rk cn ck mn mk X (wb.drewN nq) S o):=A.out.d nq;clear A c9 d5 y;have HJ:Hid (Do 193 #[pT b 0,J f.a] (.tuple #[]) (wb.drewN nq) F b o (S.Mx f.a)):=tQ z.out.a.c _;refine HJ.out.mono ?_;rintro e w2 ⟨rfl,o2,h2⟩;have t:Hid (Bx w F b o f ro co mo rn rk cn ck mn mk X w2 (S.Mx f.a) o2):=z.out.step h2;clear h2 HJ z;have d3:=t.out.c.a 3 _ rfl;simp only[yf,yd,ye] at d3;have W:Hid (Do 106 #[pT b 0,J f.b] (.tuple #[]) w2 F b o2 ((S.Mx f.a).suspect f.b)):=qm t.out.a.c L.out P.out.members;go_wp2_with fail
  refine W.out.mono ?_;rintro e i ⟨rfl,o3,h3⟩;have g:Hid (Bx w F b o f ro co mo rn rk cn ck mn mk X i ((S.Mx f.a).suspect f.b) o3):=t.out.step h3;clear h3 W t L d3;generalize (S.Mx f.a).suspect f.b=T at g HZ j q;obtain⟨r,hr, -, -⟩:=g.out.a.c.i q.out;obtain⟨vo,vn,vk,B⟩:=g.out.a.c.vote.a;have U:Hid (∀a,Below i i a->Calls prog 119 #[pT b 0] a fun e d=>e=.returned (sT r T.n T.n)/\Below a a d/\d.heap=a.heap):=fun a u=>np (g.out.a.c.c u) hr;have G:Hid (∀a,Below i i a->Calls prog 166 #[pT b 0] a fun e d=>Below a a d/\∃v,e=.returned v/\ba d d.heap.size v T.Mp):=fun a u=>(pR (g.out.a.c.c u) q.out).mono fun e d h=>⟨h.1,h.2.elim fun v H=>⟨v,H.1,H.2.at⟩⟩;have s:Hid (∀a,Below i i a->a.cell? (aT X 1)=some (J f.f)/\a.cell? (aT X 5)=some (J f.a)/\a.cell? (aT b 6)=some (J T.b)/\a.cell? (aT b 10)=some (J T.a.b)/\a.cell? (aT b 11)=some (J T.a.m)/\a.cell? (aT b 12)=some (.slice vo vn vk)):=fun a u=>by
   have h:=g.out.e u;have hc:=h.a.c.a;refine⟨h.c.a 1 _ rfl,h.c.a 5 _ rfl,hc.a 6 _ rfl,hc.a 10 _ rfl,hc.a 11 _ rfl,?_⟩;rw[<-B];exact hc.a 12 _ rfl
  have a0:Hid (∀a E,Below i i a->ba a a.heap.size E T.Mp->Calls prog 165 #[pT b 0,.agg #[J 4,J 0,J f.f,J T.a.m,J T.b,J f.a,J T.a.b,sT r T.n T.n,.slice vo vn vk,E]] a fun e d=>e=.returned (.tuple #[])/\∃I,To w F b o d Z I):=fun a E u M=>by
   have h5:=g.out.e u;have H:=h5.a.c.vote;rw[B] at H;refine(oH h5.a.c ⟨4,0,f.f,T.a.m,T.b,f.a,T.a.b,T.Ml,T.a.a,T.Mp⟩ (by have:=j.out;omega) (h5.a.c.e.a2 hr q.out.num) (aX H.d) M).mono ?_;rintro e d ⟨rfl,I,h'⟩;exact⟨rfl,I,by rw[HZ.out];exact h5.a.a h'⟩
  clear hr B g HZ j q hs C P;go_wp2_with fail
  refine gl.b (fun a=>a.cell? (aT X 1)=some (J f.f)/\a.cell? (aT X 5)=some (J f.a)/\a.cell? (aT b 6)=some (J T.b)/\a.cell? (aT b 10)=some (J T.a.b)/\a.cell? (aT b 11)=some (J T.a.m)/\a.cell? (aT b 12)=some (.slice vo vn vk)) 29 rfl (s.out _ (Below.refl _ _).drew) (fun c=>?_)
  (iterate 25 refine χ ?_);refine tw 26 ?_
  refine te 25 fun K l=>?_;go_simp;refine(U.out _ (Below.refl _ _).drew).mono ?_;rintro e w4 ⟨rfl,Y, -⟩;have k:Hid (Below i i w4):=(Below.refl _ _).drew.trans (Y.mono (yb _));clear Y;refine l.out _ _ (fun _=>s.out _ k.out) (fun c=>?_);clear l K;try simp only[pU]
  refine te 27 fun K l=>?_;go_simp;refine(G.out _ k.out).mono ?_;rintro e w5 ⟨V,v,rfl,M⟩;obtain⟨ao,an,ac,rfl⟩:=M.b;have D:Hid (Below i i w5):=k.out.trans (V.mono k.out.size);have HM:Hid (ba w5 w5.heap.size (.slice ao an ac) T.Mp):=M;clear V M k;refine l.out _ _ (fun _=>s.out _ D.out) (fun c=>?_);clear l K;try simp only[pU]
  have c:=c θ;refine tw 28 ?_;refine te 29 fun K l=>?_;go_simp;refine(a0.out _ _ D.out HM.out).mono ?_;rintro e w6 ⟨rfl,h6⟩;have H6:Hid (∃I,To w F b o w6 Z I):=h6;clear h6 HM D a0 s U G;refine l.out _ _ (fun h=>absurd rfl h) (fun _=>?_);clear l K c;try simp only[pU]
  refine gl.done κ ?_ _;go_wp2_with fail
  go_end0
  exact⟨rfl,H6.out⟩
def PP.b0(p:PP w F b S o){B:Bal}(a:S.d=some B):∃x,o.c=some x:=by
 rcases p.lead.cases with ⟨-,h⟩|⟨x,c,h, -⟩
 ·rw[a] at h;cases h
 ·exact⟨x,h⟩
def tZ(p:PP w F b S o)(wf:Wf S)(ho:S.out=false)(hf:FrW S.n f)(hk:f.c=4){rv cv mv:Value}(fr:ud w (o.R F b) f rv cv mv)(hs:S.e.length<=800000):Do 212 #[pT b 0,jq f rv cv mv] (.tuple #[]) w F b o (S.Mv f):=by
 obtain⟨ro,rn,rk,rfl⟩:=fr.row.a;obtain⟨co,cn,ck,rfl⟩:=fr.cut.a;obtain⟨mo,mn,mk,rfl⟩:=fr.msgs.a;have r:=ah (p.bx fr);obtain⟨q,hqn,hq⟩:=hf.src;have v:Hid (f.f=(q:Int)/\q<S.n/\q<6):=⟨hq,hqn,yg hqn wf.c⟩;have b3:0<=q:=ω;have m:Hid (Wf S):=wf;have a6:=ah ho;have HF:=ah hf;have C:=ah ((hf.b hk).2);have N:Hid ((o.c=none/\S.d=none)\/∃x B,o.c=some x/\S.d=some B):=p.lead.cases.imp id fun ⟨x,B,h1,h2,_⟩=>⟨x,B,h1,h2⟩;have HI:Hid (S.Mv f=match S.d with|none=>S|some B=>if B.g=f.a && B.e && Md.aV (Md.cX B.a B.c) q then ({ (S.My q f.g).Mc f.d with d:=some (B.f q (f.g,⟨f.e,f.b,f.i⟩)) }:PS).MA (B.f q (f.g,⟨f.e,f.b,f.i⟩)) else S):=by
  have e:f.f.toNat=q:=ω;unfold Hid PS.Mv;rw[e];rfl
 clear p fr wf hf ho hq hqn hk;generalize S.Mv f=Z at HI ⊢;unfold jq;go_enter Tryz.func212,Tryz.ntmps212
 refine wp_seq_k fun K hK=>?_;have a5:=ah hK;clear hK;go_wp2_with fail
 refine a5.out _ _ ?_;clear a5 K;generalize w.alloc _=wb at r ⊢;generalize w.heap.size=X at r ⊢;have d5:=r.out.c.a 5 _ rfl;have M:=r.out.c.a 1 _ rfl;simp only[yf,yd,ye] at M d5;rw[v.out.1] at M;have g:=ah (fun n=>pW (r.out.d n).a.c f.a);cases a:S.MY f.a with
 | false =>
   have D:Hid (Z=S):=by
    have h:=HI.out;unfold PS.MY at a;match hl:S.d with
    |none=>rw[hl] at h;exact h
    | some B =>
      rw[hl] at h a;have:=a;have:decide (B.g=f.a)=false:=by simpa using this
      simp only[this,Bool.false_and,yH,if_false] at h;exact h
   rw[a] at g;clear HI N a;go_wp2_with fail
   go_quiet ((go_at_call 256;exact Calls.quiet_of_same (g.out _)))
   go_wp2_with fail
   (try simp only[Exit.inBlock,Exit.then])
   refine bodyPost_ret (results_none rfl _ _ _) rfl ?_;exact⟨rfl,o,by rw[D.out];exact(r.out.d nq).a⟩
 | true =>
   rw[a] at g;obtain⟨x,B,O,hL⟩:∃x B,o.c=some x/\S.d=some B:=N.out.elim (fun h=>by unfold PS.MY at a;rw[h.2] at a;cases a) id;have H:B.g=f.a:=by unfold PS.MY at a;rw[hL] at a;simpa using a
   have HL:=ah hL;have l:Hid (Z=if B.e && Md.aV (Md.cX B.a B.c) q then ({ (S.My q f.g).Mc f.d with d:=some (B.f q (f.g,⟨f.e,f.b,f.i⟩)) }:PS).MA (B.f q (f.g,⟨f.e,f.b,f.i⟩)) else S):=by
    have h:=HI.out;rw[hL] at h;simp only[show decide (B.g=f.a)=true by simp[H],Bool.true_and] at h;exact h
   have z:=r.out.a.c.f O hL;have a1:=m.out.lead B hL;have L:=r.out.a.c.a.a 13 _ rfl;rw[O] at L;have g1:=z.c.a 1 _ rfl;have g3:=z.c.a 3 _ rfl;have g4:=z.c.a 4 _ rfl;simp only[eb,bu,yf,yd,ye] at L g1 g3 g4;have j:Hid (∀n,Calls prog 173 #[J (bits .andNot .i64 B.a B.c),J q] (wb.drewN n) fun e c=>e=.returned (.bool (Md.aV (Md.cX B.a B.c) q))/\c=wb.drewN n):=fun n=>by
    rw[(cK a1.asked a1.answ).1];exact gE _ q _ (by have:=v.out.2.2;omega)
   clear HI N a H O hL z a1;cases E:B.e with
   | false =>
     have D:Hid (Z=S):=by have:=l.out;rw[E] at this;exact this
     rw[E] at g1;clear l j E;go_wp2_with fail
     go_quiet ((go_at_call 256;exact Calls.quiet_of_same (g.out _)))
     go_wp2_with fail
     (try simp only[Exit.inBlock,Exit.then])
     refine bodyPost_ret (results_none rfl _ _ _) rfl ?_;exact⟨rfl,o,by rw[D.out];exact(r.out.d nq).a⟩
   | true =>
     rw[E] at g1;cases Y:Md.aV (Md.cX B.a B.c) q with
     | false =>
       have D:Hid (Z=S):=by have:=l.out;rw[E,Y] at this;exact this
       rw[Y] at j;clear l E Y;go_wp2_with fail
       go_quiet (first|(go_at_call 256;exact Calls.quiet_of_same (g.out _))|(go_at_call 173;exact Calls.quiet_of_same (j.out _)))
       go_wp2_with fail
       (try simp only[Exit.inBlock,Exit.then])
       refine bodyPost_ret (results_none rfl _ _ _) rfl ?_;exact⟨rfl,o,by rw[D.out];exact(r.out.d nq).a⟩
     | true =>
       have D:Hid (Z=({ (S.My q f.g).Mc f.d with d:=some (B.f q (f.g,⟨f.e,f.b,f.i⟩)) }:PS).MA (B.f q (f.g,⟨f.e,f.b,f.i⟩))):=by have:=l.out;rw[if_pos (by rw[E,Y];rfl)] at this;exact this
       have a7:=ah (Md.mY (m.out.lead B HL.out).asked (m.out.lead B HL.out).answ Y);rw[Y] at j;clear l Y E;go_wp2_with fail
       go_quiet (first|(go_at_call 256;exact Calls.quiet_of_same (g.out _))|(go_at_call 173;exact Calls.quiet_of_same (j.out _)))
       have d:=ah (r.out.d nq);clear r M d5 L g1 g3 g4 g j;generalize wb.drewN nq=w1 at d ⊢;have d7:=d.out.c.a 7 _ rfl;have M:=d.out.c.a 1 _ rfl;simp only[yf,yd,ye] at M d7;rw[v.out.1] at M;have a2:=ah (pX d.out.a.c m.out v.out.2.1 d.out.fr.row C.out.1);go_wp2_with fail
       refine a2.out.mono ?_;rintro e w2 ⟨rfl,o2,h2⟩;have u:=ah (d.out.step h2);have W:=ah (m.out.i v.out.2.1 HF.out.row);have k:=ah ((Md.dq S q f.g).b (Md.bf _ f.d));have a0:Hid (((S.My q f.g).Mc f.d).e=S.e):=(nO _ _).trans rfl;have I:=ah ((Md.dq S q f.g).n);clear h2 a2 d M d7;have d9:=u.out.c.a 9 _ rfl;simp only[yf,yd,ye] at d9;have a4:Hid (Do 257 #[pT b 0,.slice mo mn mk] (.tuple #[]) w2 F b o2 ((S.My q f.g).Mc f.d)):=lB u.out.a.c W.out u.out.fr.msgs (by rw[I.out];exact HF.out.msgs) (by have:=HF.out.d;omega);go_wp2_with fail
       refine a4.out.mono ?_;rintro e w3 ⟨rfl,o3,h3⟩;have t:=ah (u.out.step h3);have s:Hid (Wf ((S.My q f.g).Mc f.d)):=W.out.f (by rw[I.out];exact HF.out.msgs);clear h3 a4 u W I d9;generalize (S.My q f.g).Mc f.d=T at t s D k a0;have A:Hid (T.d=some B):=by have:=k.out;unfold Md.dh at this;rw[Hid,this];exact HL.out
       obtain⟨x3,G⟩:=t.out.a.c.b0 A.out;have i:=ah G;have a8:Hid (∀c,Below w3 w3 c->c.cell? (aT b 13)=some (pT x3 0)/\c.cell? (aT X 1)=some (J q)/\c.cell? (aT X 7)=some (.slice ro rn rk)/\c.cell? (aT X 6)=some (J f.e)/\c.cell? (aT X 3)=some (J f.b)/\c.cell? (aT X 8)=some (.slice co cn ck)):=fun c hw=>by
        have h:=t.out.e hw;have a9:=h.a.c.a.a 13 _ rfl;have h1:=h.c.a 1 _ rfl;simp only[yf,yd,ye,v.out.1] at h1;simp only[yf,yd,ye,i.out,eb] at a9;exact⟨a9,h1,h.c.a 7 _ rfl,h.c.a 6 _ rfl,h.c.a 3 _ rfl,h.c.a 8 _ rfl⟩
       have y:=ah (s.out.lead B A.out);have a3:Hid (Calls prog 194 #[pT x3 0,J q,.agg #[.slice ro rn rk,J f.e,J f.b,.slice co cn ck]] w3.drew fun e c=>e=.returned (.tuple #[])/\Calls prog 196 #[pT b 0] c fun e b2=>e=.returned (.tuple #[])/\∃o',To w F b o b2 Z o'):=by
        have V:=t.out.e (Below.refl _ _).drew;have b0:B.i.length<=1000:=by
         have h1:=y.out.e;have h2:Md.ir B.c<=6:=by rw[Md.pz];(repeat' split) <;> omega
         omega
        refine(AA V.a.c i.out A.out v.out.2.2 y.out.answ b0 (f.g,⟨f.e,f.b,f.i⟩) V.fr.row V.fr.cut).mono ?_;rintro e c ⟨rfl,b1,h'⟩;refine⟨rfl,?_⟩;have hW:Md.lh T.n T.a (B.f q (f.g,⟨f.e,f.b,f.i⟩)):=y.out.g v.out.2.2 a7.out ⟨by rw[k.out.n];exact C.out.1,HF.out.voted,by rw[k.out.n];exact C.out.2,HF.out.members⟩;have h2:Wf ({ T with d:=some (B.f q (f.g,⟨f.e,f.b,f.i⟩)) }:PS):=s.out.e (v:=T.a) s.out.vote fun B' e=>by
         cases e;exact hW
        rw[D.out];exact(V.a.a h').g (si h'.c h2 (k.out.out.trans a6.out) (o:={ o3 with e:=b1,a:=o3.a++[(.slice ro rn rk,.slice co cn ck)] }) i.out rfl (by show T.e.length<=800000;rw[a0.out];exact hs))
       clear G i t s D k a0 A y m HF C HL a7 v a6;go_wp2_with fail
       refine gl.b (fun c=>c.cell? (aT b 13)=some (pT x3 0)/\c.cell? (aT X 1)=some (J q)/\c.cell? (aT X 7)=some (.slice ro rn rk)/\c.cell? (aT X 6)=some (J f.e)/\c.cell? (aT X 3)=some (J f.b)/\c.cell? (aT X 8)=some (.slice co cn ck)) 16 rfl (a8.out _ (Below.refl _ _).drew) (fun U=>?_)
       (iterate 16 refine χ ?_)
       refine te 16 fun K hK=>?_;go_simp;refine a3.out.mono ?_;rintro e w4 ⟨rfl,h4⟩;have H4:=ah h4;clear h4 a3 a8;refine hK.out _ _ (fun h=>absurd rfl h) (fun _=>?_);clear hK K U;try simp only[pU]
       refine gl.done κ ?_ _;go_wp2_with fail
       refine H4.out.mono ?_;rintro e w5 ⟨rfl,V⟩;have H5:=ah V;clear V H4;go_wp2_with fail
       go_end0
       exact⟨rfl,H5.out⟩
def nQ:∀{L:List Lft}{vs:List (Value × Value)}{i:Nat}{a:Lft}{v:Value × Value},L[i]?=some a->vs[i]?=some v->(bV L vs)[i * 3]?=some (J a.m)/\(bV L vs)[i * 3+1]?=some v.1/\(bV L vs)[i * 3+2]?=some v.2
 |x::L,u::vs,0,a,v,d,c=>by cases d;cases c;exact⟨rfl,rfl,rfl⟩
 | x :: L, u :: vs, i + 1, a, v, d, c => by
   have:=nQ (i:=i) d c;simp only[bV];rw[show (i+1) * 3=i * 3+3 by omega];exact this
 |[],_,_,_,_,d,_=>by cases d
 |_::_,[],_,_,_,_,c=>by cases c
def PP.t(p:PP w F b S o){v:Nat}(t:v<S.i.length):∃g A h l e d k c,o.i=sT g S.i.length A/\w.cell? ⟨g,v * 3,none⟩=some (J (S.i.getD v ⟨0,[],[]⟩).m)/\w.cell? ⟨g,v * 3+1,none⟩=some (.slice h l e)/\w.cell? ⟨g,v * 3+2,none⟩=some (.slice d k c)/\aE w (o.R F b) (.slice h l e) (S.i.getD v ⟨0,[],[]⟩).a/\bI w (o.R F b) (.slice d k c) (S.i.getD v ⟨0,[],[]⟩).b:=by
 have z:S.i[v]?=some (S.i.getD v ⟨0,[],[]⟩):=by simp[t]
 have C:v<o.f.length:=by rw[p.left.f];exact t
 have y:=yh C;obtain⟨m,r⟩:=p.left.e v _ _ z y;obtain⟨E,s,x⟩:=nQ z y;obtain⟨h,l,e,D⟩:=m.a;obtain⟨d,k,c,G⟩:=r.a;rw[D] at m s;rw[G] at r x;rcases p.left.d.2 with ⟨-,I⟩|⟨g,q,H,a, -⟩
 ·omega
 ·have n:o.i.ownBlock=some g:=by rw[a];rfl
  have i:=fun j u B=>p.left.d.cells n j u B;simp only[lu] at i;exact⟨g,q,h,l,e,d,k,c,a,i _ _ E,i _ _ s,i _ _ x,m,r⟩
def tN(p:PP w F b S o)(wf:Wf S)(ho:S.out=false)(P:FrW S.n f)(L:f.h<S.b)(B:ud w (o.R F b) f rv cv mv)(hs:S.e.length<=900000):Do 172 #[pT b 0,jq f rv cv mv] (.tuple #[]) w F b o (S.MM f):=by
 obtain⟨ro,rn,rk,rfl⟩:=B.row.a;obtain⟨co,cn,ck,rfl⟩:=B.cut.a;obtain⟨mo,mn,mk,rfl⟩:=B.msgs.a;have c:=ah (p.bx B);obtain⟨q,W,H⟩:=P.src;obtain⟨v,M⟩:∃v:Nat,f.h=v:=⟨f.h.toNat,by have:=P.view.1;omega⟩;have C:v<S.i.length:=by have:=wf.left.2 ho;omega
 have x:=ah C;have k:Hid (f.f=(q:Int)/\f.h=(v:Int)):=⟨H,M⟩;have a1:0<=v:=ω;have a0:v<S.i.length:=ω;have z:Hid (S.MM f=if f.c=7 then S else S.ME q v (S.i.getD v ⟨0,[],[]⟩)):=by
  unfold Hid PS.MM;rw[H,M];rfl
 clear p B wf P ho H W L M C;generalize S.MM f=Z at z ⊢;unfold jq;go_enter Tryz.func172,Tryz.ntmps172
 refine wp_seq_k fun K y=>?_;have D:=ah y;clear y;go_wp2_with fail
 refine D.out _ _ ?_;clear D K;generalize w.alloc _=d at c ⊢;generalize w.heap.size=X at c ⊢;have d0:=c.out.c.a 0 _ rfl;simp only[yf,yd] at d0;by_cases hk:f.c=7
 ·have G:Hid (Z=S):=by rw[Hid,z.out,if_pos hk]
  clear z;go_wp2_with fail
  (try simp only[Exit.inBlock,Exit.then])
  refine bodyPost_ret (results_none rfl _ _ _) rfl ?_;exact⟨rfl,o,by rw[G.out];exact c.out.a⟩
 ·have G:Hid (Z=S.ME q v (S.i.getD v ⟨0,[],[]⟩)):=by rw[Hid,z.out,if_neg hk]
  obtain⟨g,gk,V,U,N,I,T,O,E,Y,g1,g2,hc,hm⟩:=c.out.a.c.t x.out;have l:Hid (∀a,Below d d a->a.cell? (aT X 1)=some (J q)/\a.cell? (aT X 4)=some (J v)/\a.cell? (aT b 16)=some (sT g S.i.length gk)/\a.cell? ⟨g,v * 3,none⟩=some (J (S.i.getD v ⟨0,[],[]⟩).m)/\a.cell? ⟨g,v * 3+1,none⟩=some (.slice V U N)/\a.cell? ⟨g,v * 3+2,none⟩=some (.slice I T O)):=fun a r=>by
   have h:=c.out.e r;have t:=h.a.c.a.a 16 _ rfl;have h1:=h.c.a 1 _ rfl;have A:=h.c.a 4 _ rfl;simp only[yf,yd,ye,k.out.1] at h1;simp only[yf,yd,ye,k.out.2] at A;simp only[yf,yd,ye,E] at t;have Q:=fun {j:Nat}{u:Value} (hx:d.cell? (aT g j)=some u)=>(r.cell (p:=(aT g j)) (World.block_lt_of_cell? d _ hx)).trans hx;exact⟨h1,A,t,Q Y,Q g1,Q g2⟩
  have m:Hid (Calls prog 208 #[pT b 0,J q,J v,.agg #[J (S.i.getD v ⟨0,[],[]⟩).m,.slice V U N,.slice I T O]] d.drew fun e s=>e=.returned (.tuple #[])/\∃o',To w F b o s Z o'):=by
   have r:Below d d d.drew:=(Below.refl _ _).drew;have h5:=c.out.e r;have st:=(c.out.a.c.d r).d;refine(kT h5.a.c q v (S.i.getD v ⟨0,[],[]⟩) ω (aX (hc.f st).d) (hm.c st).at).mono ?_;rintro e s ⟨rfl,a2,h'⟩;exact⟨rfl,_,by rw[G.out];exact h5.a.a h'⟩
  clear z G hc hm Y g1 g2 E c x k;generalize (S.i.getD v ⟨0,[],[]⟩).m=em at l m;go_wp2_with fail
  refine gl.b (fun a=>a.cell? (aT X 1)=some (J q)/\a.cell? (aT X 4)=some (J v)/\a.cell? (aT b 16)=some (sT g S.i.length gk)/\a.cell? ⟨g,v * 3,none⟩=some (J em)/\a.cell? ⟨g,v * 3+1,none⟩=some (.slice V U N)/\a.cell? ⟨g,v * 3+2,none⟩=some (.slice I T O)) 13 rfl (l.out _ (Below.refl _ _).drew) (fun i=>?_)
  (iterate 13 refine χ ?_)
  refine te 13 fun K y=>?_;go_simp;refine m.out.mono ?_;rintro e w4 ⟨rfl,A⟩;have H4:=ah A;clear A m l;refine y.out _ _ (fun h=>absurd rfl h) (fun _=>?_);clear y K i;try simp only[pU]
  refine gl.done κ ?_ _;go_wp2_with fail
  go_end0
  exact⟨rfl,H4.out⟩
def nj(p:PP w F b S o)(m:Wf S)(t:S.out=false)(l:FrW S.n f)(s:ud w (o.R F b) f rv cv mv)(N:S.e.length<=800000):Do 174 #[pT b 0,jq f rv cv mv] (.tuple #[]) w F b o (S.L9 f):=by
 obtain⟨K,D,z,rfl⟩:=s.row.a;obtain⟨B,E,H,rfl⟩:=s.cut.a;obtain⟨G,C,I,rfl⟩:=s.msgs.a;have j:=ah (p.bx s);have v:f.c=1\/f.c=2\/f.c=3\/f.c=4\/f.c=5\/f.c=6\/f.c=7:=by
  have:=l.c;unfold Md.cH at this;by_cases h1:f.c=1 <;> by_cases h2:f.c=2 <;> by_cases h3:f.c=3 <;> by_cases h4:f.c=4 <;> by_cases h5:f.c=5 <;> by_cases h6:f.c=6 <;> by_cases h7:f.c=7 <;> simp_all
 have q:∀y ,Bx w F b o f K B G D z E H C I w.heap.size y S o->∀{T:PS}{k:FuncId},Do k #[pT b 0,jq f (.slice K D z) (.slice B E H) (.slice G C I)] (.tuple #[]) y F b o T->Calls prog k #[pT b 0,jq f (.slice K D z) (.slice B E H) (.slice G C I)] y fun e A=>e=.returned (.tuple #[])/\∃P,To w F b o A T P:=fun y h _ _ O=>h.a.g O;have d:=j.out;have u:=j.out.c.a 0 _ rfl;have W:=j.out.c.a 1 _ rfl;have d2:=j.out.c.a 2 _ rfl;have Y:=j.out.c.a 3 _ rfl;have Q:=j.out.c.a 4 _ rfl;have U:=j.out.c.a 5 _ rfl;have d6:=j.out.c.a 6 _ rfl;have L:=j.out.c.a 7 _ rfl;have M:=j.out.c.a 8 _ rfl;have V:=j.out.c.a 9 _ rfl;simp only[yf,yd,ye] at u W d2 Y Q U d6 L M V;rcases v with c|c|c|c|c|c|c
 ·have a:Hid (Calls prog 209 _ _ _):=q _ d (xa d.a.c m l c d.fr);have i:Hid (S.L9 f=S.MQ f):=by unfold Hid PS.L9;rw[if_pos c]
  rw[i.out];rw[c] at u;clear q d j p s m l t i;unfold jq at a ⊢;rw[c] at a ⊢;clear c;generalize S.MQ f=Z at a ⊢;go_enter Tryz.func174,Tryz.ntmps174
  go_wp2_with fail
  refine a.out.mono ?_;rintro e x ⟨rfl,g⟩;have r:=ah g;clear g a;go_wp2_with fail
  go_end0
  exact⟨rfl,r.out⟩
 ·have a:Hid (Calls prog 210 _ _ _):=q _ d (qX d.a.c m l c d.fr);have i:Hid (S.L9 f=S.ML f):=by unfold Hid PS.L9;simp[c]
  rw[i.out];rw[c] at u;clear q d j p s m l t i;unfold jq at a ⊢;rw[c] at a ⊢;clear c;generalize S.ML f=Z at a ⊢;go_enter Tryz.func174,Tryz.ntmps174
  go_wp2_with fail
  refine a.out.mono ?_;rintro e x ⟨rfl,g⟩;have r:=ah g;clear g a;go_wp2_with fail
  go_end0
  exact⟨rfl,r.out⟩
 ·have a:Hid (Calls prog 211 _ _ _):=q _ d (tY d.a.c m l d.fr ω);have i:Hid (S.L9 f=S.MR f):=by unfold Hid PS.L9;simp[c]
  rw[i.out];rw[c] at u;clear q d j p s m l t i;unfold jq at a ⊢;rw[c] at a ⊢;clear c;generalize S.MR f=Z at a ⊢;go_enter Tryz.func174,Tryz.ntmps174
  go_wp2_with fail
  refine a.out.mono ?_;rintro e x ⟨rfl,g⟩;have r:=ah g;clear g a;go_wp2_with fail
  go_end0
  exact⟨rfl,r.out⟩
 ·have a:Hid (Calls prog 212 _ _ _):=q _ d (tZ d.a.c m t l c d.fr N);have i:Hid (S.L9 f=S.Mv f):=by unfold Hid PS.L9;simp[c]
  rw[i.out];rw[c] at u;clear q d j p s m l t i;unfold jq at a ⊢;rw[c] at a ⊢;clear c;generalize S.Mv f=Z at a ⊢;go_enter Tryz.func174,Tryz.ntmps174
  go_wp2_with fail
  refine a.out.mono ?_;rintro e x ⟨rfl,g⟩;have r:=ah g;clear g a;go_wp2_with fail
  go_end0
  exact⟨rfl,r.out⟩
 ·have a:Hid (Calls prog 213 _ _ _):=q _ d (qW d.a.c m l c d.fr ω);have i:Hid (S.L9 f=S.MK f):=by unfold Hid PS.L9;simp[c]
  rw[i.out];rw[c] at u;clear q d j p s m l t i;unfold jq at a ⊢;rw[c] at a ⊢;clear c;generalize S.MK f=Z at a ⊢;go_enter Tryz.func174,Tryz.ntmps174
  go_wp2_with fail
  refine a.out.mono ?_;rintro e x ⟨rfl,g⟩;have r:=ah g;clear g a;go_wp2_with fail
  go_end0
  exact⟨rfl,r.out⟩
 ·have a:Hid (Calls prog 214 _ _ _):=q _ d (ot d.a.c m t l d.fr ω);have i:Hid (S.L9 f=S.Mk f):=by unfold Hid PS.L9;simp[c]
  rw[i.out];rw[c] at u;clear q d j p s m l t i;unfold jq at a ⊢;rw[c] at a ⊢;clear c;generalize S.Mk f=Z at a ⊢;go_enter Tryz.func174,Tryz.ntmps174
  go_wp2_with fail
  refine a.out.mono ?_;rintro e x ⟨rfl,g⟩;have r:=ah g;clear g a;go_wp2_with fail
  go_end0
  exact⟨rfl,r.out⟩
 ·have a:Hid (Calls prog 215 _ _ _):=q _ d (qo d.a.c m t l c d.fr);have i:Hid (S.L9 f=S.M3 f):=by unfold Hid PS.L9;simp[c]
  rw[i.out];rw[c] at u;clear q d j p s m l t i;unfold jq at a ⊢;rw[c] at a ⊢;clear c;generalize S.M3 f=Z at a ⊢;go_enter Tryz.func174,Tryz.ntmps174
  go_wp2_with fail
  refine a.out.mono ?_;rintro e x ⟨rfl,g⟩;have r:=ah g;clear g a;go_wp2_with fail
  go_end0
  exact⟨rfl,r.out⟩
variable {R:Nat->Prop}{v:Value}{n:Nat}{l:List Codec.Msg}
def B8(p:PP w F b S o)(B:Wf S)(P:S.out=false)(M:FrW S.n f){rv cv mv:Value}(y:ud w (o.R F b) f rv cv mv)(Y:S.e.length<=800000):Do 117 #[pT b 0,jq f rv cv mv] (.tuple #[]) w F b o (S.MW f):=by
 obtain⟨N,E,A,rfl⟩:=y.row.a;obtain⟨C,G,I,rfl⟩:=y.cut.a;obtain⟨H,D,L,rfl⟩:=y.msgs.a;have c:=ah (p.bx y);obtain⟨q,V,W⟩:=M.src;have HQ:=ah W;have a0:0<=q:=ω;have x:q<=63:=by have:=B.c;omega
 have r:Hid (S.MW f=if S.b<f.h then S else if f.h<S.b then S.MM f else if Md.aV S.m q then S.L9 f else S):=by
  have e:f.f.toNat=q:=ω;unfold Hid PS.MW;rw[e]
 have u:Hid (∀d,Bx w F b o f N C H E A G I D L w.heap.size d S o->f.h<S.b->Calls prog 172 #[pT b 0,jq f (.slice N E A) (.slice C G I) (.slice H D L)] d fun e g=>e=.returned (.tuple #[])/\∃Q,To w F b o g (S.MM f) Q):=fun d h O=>h.a.g (tN h.a.c B P M O h.fr ω);have m:Hid (∀d,Bx w F b o f N C H E A G I D L w.heap.size d S o->Calls prog 174 #[pT b 0,jq f (.slice N E A) (.slice C G I) (.slice H D L)] d fun e g=>e=.returned (.tuple #[])/\∃Q,To w F b o g (S.L9 f) Q):=fun d h=>h.a.g (nj h.a.c B P M h.fr Y);clear p y B M P W V Y;generalize S.MW f=Z at r ⊢;unfold jq at u m ⊢;go_enter Tryz.func117,Tryz.ntmps117
 refine wp_seq_k fun K k=>?_;have z:=ah k;clear k;go_wp2_with fail
 refine z.out _ _ ?_;clear z K;generalize w.alloc _=wb at c ⊢;generalize w.heap.size=X at c u m ⊢;have c6:=c.out.a.c.a.a 6 _ rfl;have c7:=c.out.a.c.a.a 7 _ rfl;have d0:=c.out.c.a 0 _ rfl;have d1:=c.out.c.a 1 _ rfl;have d2:=c.out.c.a 2 _ rfl;have d3:=c.out.c.a 3 _ rfl;have d4:=c.out.c.a 4 _ rfl;have d5:=c.out.c.a 5 _ rfl;have d6:=c.out.c.a 6 _ rfl;have d7:=c.out.c.a 7 _ rfl;have d8:=c.out.c.a 8 _ rfl;have d9:=c.out.c.a 9 _ rfl;simp only[yf,yd,ye] at c6 c7 d0 d1 d2 d3 d4 d5 d6 d7 d8 d9;by_cases T:S.b<f.h
 ·have s:Hid (Z=S):=by rw[Hid,r.out,if_pos T]
  clear r u m;go_wp2_with fail
  go_quiet (fail)
  go_wp2_with fail
  (try simp only[Exit.inBlock,Exit.then])
  refine bodyPost_ret (results_none rfl _ _ _) rfl ?_;exact⟨rfl,o,by rw[s.out];exact(c.out.d nq).a⟩
 ·by_cases U:f.h<S.b
  ·have s:Hid (Z=S.MM f):=by rw[Hid,r.out,if_neg T,if_pos U]
   have HV:=ah U;clear r m;go_wp2_with fail
   go_quiet (fail)
   go_wp2_with fail
   go_quiet (fail)
   go_wp2_with fail
   refine(u.out _ (c.out.d _) HV.out).mono ?_;rintro e w3 ⟨rfl,h3⟩;have H3:=ah h3;clear h3 u;go_wp2_with fail
   go_end0
   exact⟨rfl,by rw[s.out];exact H3.out⟩
  ·have i:Hid (Z=if Md.aV S.m q then S.L9 f else S):=by rw[Hid,r.out,if_neg T,if_neg U]
   have j:Hid (∀d,Calls prog 173 #[J S.m,J q] d fun e g=>e=.returned (.bool (Md.aV S.m q))/\g=d):=fun d=>gE S.m q d x;clear r u;rw[HQ.out] at d1;cases t:Md.aV S.m q with
   | false =>
     have s:Hid (Z=S):=by have:=i.out;rw[t] at this;exact this
     rw[t] at j;clear i m t;go_wp2_with fail
     go_quiet (fail)
     go_wp2_with fail
     go_quiet (fail)
     go_wp2_with fail
     refine wp_region_held_drew (S:=fun d=>d.cell? (aT b 7)=some (J S.m)/\d.cell? (aT X 1)=some (J q)) rfl (by constructor <;> simpa) (fun a=>?_)
     (iterate 6 refine ψ ?_)
     refine we 6 fun K k=>?_;go_simp;refine(j.out _).mono ?_;rintro e w2 ⟨rfl,rfl⟩;refine k.out _ _ (by constructor <;> simpa) (fun a=>?_);clear k K;try simp only[pU]
     refine wk 7 ?_;refine wpAnyH_done κ ?_ _;clear a;go_wp2_with fail
     go_end0
     exact⟨rfl,o,by rw[s.out];exact(c.out.d _).a⟩
   | true =>
     have s:Hid (Z=S.L9 f):=by have:=i.out;rw[t] at this;exact this
     rw[t] at j;clear i t;rw[HQ.out] at m;go_wp2_with fail
     go_quiet (fail)
     go_wp2_with fail
     go_quiet (fail)
     go_wp2_with fail
     refine wp_region_held_drew (S:=fun d=>d.cell? (aT b 7)=some (J S.m)/\d.cell? (aT X 1)=some (J q)) rfl (by constructor <;> simpa) (fun a=>?_)
     (iterate 6 refine ψ ?_)
     refine we 6 fun K k=>?_;go_simp;refine(j.out _).mono ?_;rintro e w2 ⟨rfl,rfl⟩;refine k.out _ _ (by constructor <;> simpa) (fun a=>?_);clear k K;try simp only[pU]
     refine wk 7 ?_;refine wpAnyH_done κ ?_ _;clear a;go_wp2_with fail
     refine(m.out _ (c.out.d _)).mono ?_;rintro e w4 ⟨rfl,h4⟩;have H4:=ah h4;clear h4 m;go_wp2_with fail
     go_end0
     exact⟨rfl,by rw[s.out];exact H4.out⟩
def qL{m:Nat}(d:Option Addr)(c:Nat)(w:World)(h:((m:Int) == (n:Int))=false)(g:((m:Int) == 0)=false):Calls prog 169 #[.slice d m c,J n] w fun e a=>e=.returned (.bool false)/\a=w:=by
 go_enter Tryz.func169,Tryz.ntmps169
 go_wp2
 go_ret;exact⟨rfl,rfl⟩
def kO(l:List Int)(n:Nat)(a:Option Addr)(c:Nat)(w:World):Calls prog 169 #[.slice a l.length c,J n] w fun e h=>e=.returned (.bool (Md.dp l n))/\h=w:=by
 unfold Md.dp;by_cases g:l.length=n
 ·rw[g];simp only[beq_self_eq_true,Bool.true_or];exact oc n a c w
 ·by_cases d:l.length=0
  ·rw[d];simp only[beq_self_eq_true,Bool.or_true];exact od n a c w
  ·have e:(l.length == n || l.length == 0)=false:=by simp only[beq_eq_false_iff_ne.2 g,beq_eq_false_iff_ne.2 d];rfl
   rw[e];exact qL a c w (by rw[beq_eq_false_iff_ne];omega) (by rw[beq_eq_false_iff_ne];omega)
def eB.h{e:TypeId}{d:Nat}{a:List Value}(h:eB w R e d v n a):∃g c,v=.slice g n c:=bG h.d
def bI.d(h:bI w R v l):∃a c,v=.slice a l.length c:=by
 rcases h with ⟨⟨a,c,rfl⟩,rfl⟩|⟨g,d,rfl, -⟩
 ·exact⟨a,c,rfl⟩
 ·exact⟨_,_,rfl⟩
def bI.g(h:bI w R v l){k:Nat}{m:Codec.Msg}(s:l[k]?=some m):∃g a j p,v=sT g l.length a/\g<w.heap.size/\w.cell? ⟨g,k * 4,none⟩=some (J m.a)/\w.cell? ⟨g,k * 4+1,none⟩=some (J m.seq)/\w.cell? ⟨g,k * 4+2,none⟩=some (.slice j m.c.length p)/\w.cell? ⟨g,k * 4+3,none⟩=some (.string m.b)/\(∀q,q<m.c.length->∃i,j=some ⟨i,0,none⟩/\w.cell? (aT i q)=some (J (m.c.getD q 0))):=by
 rcases h with ⟨-,rfl⟩|⟨g,a,A,z, -,y⟩
 ·cases s
 ·obtain⟨D,x,C,B,u,r⟩:=y k m s;obtain⟨j,p,rfl⟩:=r.h;refine⟨g,a,j,p,A,z,x,C,B,u,fun q t=>?_⟩;obtain⟨i,c,e, -, -,d⟩:=mE r.d ω;injection e with e1 e2 e3;exact⟨i,e1,d q t⟩
def zp(l:List Codec.Msg)(n:Nat)(mv:Value)(hm:bI w R mv l)(h0:∀m∈l,0<=m.a)(a4:l.length<=1000):Calls prog 170 #[mv,J n] w fun e w'=>e=.returned (.bool (l.all (Md.dr n)))/\Below w w w':=by
 obtain⟨ao,mc,rfl⟩:=hm.d;have HM:Hid (∀k m wr,l[k]?=some m->Below w w wr->∃g G C,ao=some ⟨g,0,none⟩/\wr.cell? ⟨g,k * 4,none⟩=some (J m.a)/\wr.cell? ⟨g,k * 4+1,none⟩=some (J m.seq)/\wr.cell? ⟨g,k * 4+2,none⟩=some (.slice G m.c.length C)/\wr.cell? ⟨g,k * 4+3,none⟩=some (.string m.b)/\(∀q,q<m.c.length->∃B,G=some ⟨B,0,none⟩/\B<wr.heap.size/\wr.cell? (aT B q)=some (J (m.c.getD q 0)))):=fun k m wr hk u=>by
  obtain⟨g,a6,G,C,hv,T,Q,c1,c2,c3,P⟩:=hm.g hk;injection hv with hv1;refine⟨g,G,C,hv1,(u.cell (p:=(aT g _)) T).trans Q,(u.cell (p:=(aT g _)) T).trans c1,(u.cell (p:=(aT g _)) T).trans c2,(u.cell (p:=(aT g _)) T).trans c3,fun q hq=>?_⟩;obtain⟨B,e,hc⟩:=P q hq;have:=World.block_lt_of_cell? w _ hc;exact⟨B,e,yg this u.size,(u.cell (p:=(aT B q)) this).trans hc⟩
 have H0:=ah h0;clear hm h0;go_enter Tryz.func170,Tryz.ntmps170
 go_wp2_with fail
 go_loopw [9] (fun i wr=>∃k:Nat,k<=l.length/\i=J k/\Below _ w wr/\Hid ((l.take k).all (Md.dr n)=true)) (fun i _=>l.length - (intOf i).toNat)
 case atStart=>exact⟨0,ω,rfl,Below.refl _ _,rfl⟩
 case round=>
  obtain⟨k,hk,rfl,u,r⟩:=hrel;by_cases U:k<l.length
  ·obtain⟨m,A⟩:∃m,l[k]?=some m:=⟨_,yh U⟩;obtain⟨g,G,C,W,Q,c1,c2,c3,P⟩:=HM.out k m wr A u;have V:=H0.out m (yy A);obtain⟨s,Y⟩:∃s:Nat,m.a=s:=⟨m.a.toNat,ω⟩;have p:Hid (Md.dr n m=false->l.all (Md.dr n)=false):=fun h=>by
    rw[List.all_eq_false];exact⟨m,yy A,by rw[h];exact Bool.false_ne_true⟩
   have j:Hid (Md.dr n m=true->(l.take (k+1)).all (Md.dr n)=true):=fun h=>by
    rw[Lc,A,List.all_append,r.out];simp[h]
   have HMF:Hid (Md.dr n m=(decide ((s:Int)<n) && m.c.length == n && m.c.getD s 0 == m.seq)):=by
    unfold Hid Md.dr;rw[Y];rfl
   rw[Y] at Q;have t:=ah P;obtain⟨ms,H,y,I⟩:=m;simp only at Q c1 c2 c3 t HMF;have a1:k<l.length:=ω;have a7:0<=k:=ω;have a3:0<=s:=ω;subst W;have x:Hid (Below wr wr (wr.alloc (.cells #[J s,J H,.slice G y.length C,.string I] 179))):=(Below.refl _ _).alloc (yb _) _;have d:=ah (u.trans (x.out.mono u.size));have O:=af.d wr _ rfl 179 #[J s,J H,.slice G y.length C,.string I];have L:=O.a 0 _ rfl;have M:=O.a 1 _ rfl;have N:=O.a 2 _ rfl;simp only[yf,yd,ye] at L M N;clear O Y V A r u P;by_cases h1:(n:Int)<=(s:Int)
   ·have D:Hid (l.all (Md.dr n)=false):=p.out (by rw[HMF.out];simp;omega);clear p j HMF t;go_wp2_with fail
    generalize wr.alloc (.cells #[J s,J H,.slice G y.length C,.string I] 179)=Z at x d L M N ⊢;go_quiet (fail)
    go_wp2_with fail
    go_ret;exact⟨by rw[D.out];rfl,below_drewN d.out _⟩
   ·have hd:decide (n<=s)=false:=by rw[decide_eq_false_iff_not];omega
    by_cases h2:(y.length:Int)=(n:Int)
    ·obtain⟨B,rfl,a0,ht⟩:=t.out s ω;have E:=(x.out.cell (p:=(aT B s)) a0).trans ht;have a5:(s:Int)<(y.length:Int):=ω;have g2:((y.length:Int) != (n:Int))=false:=by rw[h2];simp
     by_cases K:y.getD s 0=H
     ·have D:Hid ((l.take (k+1)).all (Md.dr n)=true):=j.out (by rw[HMF.out,K];simp;omega);rw[K] at E;clear p j HMF t ht K;go_wp2_with fail
      generalize wr.alloc (.cells #[J s,J H,sT B y.length C,.string I] 179)=Z at x d L M N E ⊢;go_quiet (fail)
      go_wp2_with fail
      exact⟨⟨k+1,ω,by go_num,below_drewN d.out _,D.out⟩,by simp[intOf];omega⟩
     ·have D:Hid (l.all (Md.dr n)=false):=p.out (by rw[HMF.out];simp only[beq_eq_false_iff_ne.2 K,Bool.and_false]);clear p j HMF t ht;generalize y.getD s 0=z at K E;have g3:(z != H)=true:=by rw[bne_iff_ne];exact K
      go_wp2_with fail
      generalize wr.alloc (.cells #[J s,J H,sT B y.length C,.string I] 179)=Z at x d L M N E ⊢;go_quiet (fail)
      go_wp2_with fail
      go_ret;exact⟨by rw[D.out];rfl,below_drewN d.out _⟩
    ·have D:Hid (l.all (Md.dr n)=false):=p.out (by rw[HMF.out];simp;omega);have g2:((y.length:Int) != (n:Int))=true:=by rw[bne_iff_ne];exact h2
     clear p j HMF t;go_wp2_with fail
     generalize wr.alloc (.cells #[J s,J H,.slice G y.length C,.string I] 179)=Z at x d L M N ⊢;go_quiet (fail)
     go_wp2_with fail
     go_ret;exact⟨by rw[D.out];rfl,below_drewN d.out _⟩
  ·have a2:¬(k:Int)<(l.length:Int):=ω;have D:Hid (l.all (Md.dr n)=true):=by
    have:=r.out;rwa [yX ω] at this
   have HB:=ah u;clear u r HM;go_wp2_with fail
   go_ret;exact⟨by rw[D.out];rfl,HB.out⟩
def vV(f:Codec.Frame)(n:Nat)(b:f.c=1\/f.c=2\/f.c=3\/f.c=4\/f.c=5\/f.c=6\/f.c=7)(L I D:Option Addr)(H F G:Nat)(w:World) :
 Calls prog 171 #[jq f (.slice L f.g.length H) (.slice I f.i.length F) (.slice D f.d.length G),J n] w fun e T=>e=.returned (.bool (Md.cH f n))/\Below w w T:=by
 obtain⟨Q,E,O,K,N,d,q,B,C,A⟩:=f;simp only at b;unfold jq;simp only;obtain⟨v,c⟩:∃v,Md.cH ⟨Q,E,O,K,N,d,q,B,C,A⟩ n=v:=⟨_,rfl⟩;rw[c];unfold Md.cH at c;simp only at c;have u:(B.length == n)=decide ((B.length:Int)=(n:Int)):=by rw[Bool.eq_iff_iff];simp;omega
 have s:(C.length == n)=decide ((C.length:Int)=(n:Int)):=by rw[Bool.eq_iff_iff];simp;omega
 have x:(A.length == 1)=decide ((A.length:Int)=1):=by rw[Bool.eq_iff_iff];simp;omega
 have t:(d != 0) = !decide (d=0):=by rw[Bool.eq_iff_iff];simp
 have r:(q == 0)=decide (q=0):=by rw[Bool.eq_iff_iff];simp
 rw[u,s,x,t,r] at c;clear u s x t r;generalize B.length=y at c ⊢;generalize C.length=z at c ⊢;generalize A.length=M at c ⊢;have m:=af.d w _ rfl 165 #[J Q,J E,J O,J K,J N,J d,J q,.slice L y H,.slice I z F,.slice D M G];have g:=m.a 0 _ rfl;have h:=m.a 5 _ rfl;have l:=m.a 6 _ rfl;have i:=m.a 7 _ rfl;have k:=m.a 8 _ rfl;have j:=m.a 9 _ rfl;simp only[yf,yd,ye] at g h l i k j;have a:Hid (Below w w (w.alloc (.cells #[J Q,J E,J O,J K,J N,J d,J q,.slice L y H,.slice I z F,.slice D M G] 165))):=(Below.refl _ _).alloc (yb _) _;have o:=ah c;clear m c;rcases b with rfl|rfl|rfl|rfl|rfl|rfl|rfl
 ·by_cases R:y=(n:Int) <;> by_cases V:(M:Int)=1 <;>
  (go_enter Tryz.func171,Tryz.ntmps171;go_wp2_with fail;generalize w.alloc _=p at a g h l i k j ⊢;go_quiet (fail);go_wp2_with fail;go_ret;refine⟨?_,below_drewN a.out _⟩;rw[<-o.out];simp[*])
 ·by_cases R:(y:Int)=(n:Int) <;>
  (go_enter Tryz.func171,Tryz.ntmps171;go_wp2_with fail;generalize w.alloc _=p at a g h l i k j ⊢;go_quiet (fail);go_wp2_with fail;go_ret;refine⟨?_,below_drewN a.out _⟩;rw[<-o.out];simp[*])
 ·rcases Decidable.em (d=0) with rfl|P <;>
  (go_enter Tryz.func171,Tryz.ntmps171;go_wp2_with fail;generalize w.alloc _=p at a g h l i k j ⊢;go_quiet (fail);go_wp2_with fail;go_ret;refine⟨?_,below_drewN a.out _⟩;rw[<-o.out];simp[*])
 ·rcases Decidable.em (d=0) with rfl|P <;> by_cases R:(y:Int)=(n:Int) <;> by_cases S:(z:Int)=(n:Int) <;> rcases Decidable.em (q=0) with rfl|U <;>
  (go_enter Tryz.func171,Tryz.ntmps171;go_wp2_with fail;generalize w.alloc _=p at a g h l i k j ⊢;go_quiet (fail);go_wp2_with fail;go_ret;refine⟨?_,below_drewN a.out _⟩;rw[<-o.out];simp[*])
 ·rcases Decidable.em (d=0) with rfl|P <;> by_cases S:(z:Int)=(n:Int) <;>
  (go_enter Tryz.func171,Tryz.ntmps171;go_wp2_with fail;generalize w.alloc _=p at a g h l i k j ⊢;go_quiet (fail);go_wp2_with fail;go_ret;refine⟨?_,below_drewN a.out _⟩;rw[<-o.out];simp[*])
 ·rcases Decidable.em (d=0) with rfl|P <;>
  (go_enter Tryz.func171,Tryz.ntmps171;go_wp2_with fail;generalize w.alloc _=p at a g h l i k j ⊢;go_quiet (fail);go_wp2_with fail;go_ret;refine⟨?_,below_drewN a.out _⟩;rw[<-o.out];simp[*])
 ·by_cases S:(z:Int)=(n:Int) <;>
  (go_enter Tryz.func171,Tryz.ntmps171;go_wp2_with fail;generalize w.alloc _=p at a g h l i k j ⊢;go_quiet (fail);go_wp2_with fail;go_ret;refine⟨?_,below_drewN a.out _⟩;rw[<-o.out];simp[*])
