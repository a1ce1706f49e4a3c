import Derived.Orders
import Derived.Test.YtoklolfaemhfnaaGreatDoorZbl
import Derived.Test.YtoklolfaemhfnaaGreatDoorZbn
set_option maxRecDepth 100000
set_option maxHeartbeats 0
set_option linter.defProp false
open Go.Proofs.Tryz (prog)
namespace Go.Proofs.YtoklolfaemhfnaaGreatDoor
section
open Go.RowKit
variable {l:List Ev}{e:Ev}
def gC(l:List Ev)(e:Ev):Int:=if l.findIdx (fun x=>dv x && cA x e)<l.length then (l.findIdx fun x=>dv x && cA x e) else -1
def Er(h:∀x∈l,(dv x && cA x e)=false):gC l e = -1:=by
 unfold gC;rw[if_neg];rw[List.findIdx_lt_length];rintro⟨x,b,a⟩;rw[h x b] at a;cases a
def rR{x:Ev}{k:Nat}(d:l[k]?=some x)(b:(dv x && cA x e)=true)(h:∀x∈l.take k,(dv x && cA x e)=false):gC l e=k:=by
 obtain⟨a,c⟩:=ym.1 d;have:l.findIdx (fun x=>dv x && cA x e)=k:=by
  rw[List.findIdx_eq a];refine⟨by rw[c];exact b,fun j f=>h _ ?_⟩;rw[List.mem_take_iff_getElem];exact⟨j,ω,rfl⟩
 unfold gC;rw[this,if_pos a]
def tL{t:Nat}(T:Option Addr)(Z:Nat)(l:List Ev)(e:Ev)(w:World)(r:w.ownsRow t 64 6 (.slice T l.length Z) l.length (az l))(hl:l.length<=300000000000):Calls prog 37 #[.slice T l.length Z,Iz e] w fun r a=>r=.returned (J (gC l e))/\Below w w a:=by
 obtain⟨b,f,d,c,j,m⟩:=e;have HR:Hid (∀a,Below w w a->a.ownsRow t 64 6 (.slice T l.length Z) l.length (az l)):=fun a hb=>aj r fun g hg=>hb.block g (r.lt g hg).2;have A:Hid (Below w w (w.alloc (.cells #[J b,J f,J d,J c,J j,.string m] 64))):=(yi _ _).alloc (yb _) _;have L:Hid (af (w.alloc (.cells #[J b,J f,J d,J c,J j,.string m] 64)) w.heap.size 64 #[J b,J f,J d,J c,J j,.string m]):=af.d w w.heap.size rfl 64 _;have Q:Hid ((w.alloc (.cells #[J b,J f,J d,J c,J j,.string m] 64)).heap.size=w.heap.size+1):=by simp[Hid]
 clear r;unfold Iz;go_enter Tryz.func37,Tryz.ntmps37
 go_wp2_with fail
 generalize w.alloc _=Y at A L Q ⊢;go_loopw [5] (fun i wr=>∃k:Nat,k<=l.length/\i=J k/\Below _ Y wr/\∀x∈l.take k,(dv x && cA x ⟨b,f,d,c,j,m⟩)=false) (fun i _=>l.length - (intOf i).toNat)
 case atStart=>exact⟨0,ω,rfl,yi _ _,fun x N=>by simp at N⟩
 case round=>
  obtain⟨k,hk,rfl,o,I⟩:=hrel;have s:=ah o;have u:=ah I;have p:=ah (A.out.trans (o.mono A.out.size));clear o I;by_cases W:k<l.length
  ·obtain⟨x,N⟩:∃x,l[k]?=some x:=⟨_,yh W⟩;have HX:=ah N;have HC:Hid (∀a,Below wr wr a->∃g,T=some ⟨g,0,none⟩/\a.cell? ⟨g,k * 6,none⟩=some (J x.b)/\a.cell? ⟨g,k * 6+1,none⟩=some (J x.a)/\a.cell? ⟨g,k * 6+2,none⟩=some (J x.d)/\a.cell? ⟨g,k * 6+3,none⟩=some (J x.seq)/\a.cell? ⟨g,k * 6+4,none⟩=some (J x.c)/\a.cell? ⟨g,k * 6+5,none⟩=some (.string x.e)):=fun a C=>by
    obtain⟨g,a2,hv,a1⟩:=jU (HR.out a (p.out.trans (C.mono p.out.size))) N;injection hv with S;exact⟨g,S,a1⟩
   have HE:Hid (∀a,Below wr wr a->af a w.heap.size 64 #[J b,J f,J d,J c,J j,.string m]):=fun a C=>L.out.c (s.out.trans (C.mono s.out.size)) (by rw[Q.out];omega);have HM:=ah (fun a=>lC x a);have H:=ah (fun a=>qi x ⟨b,f,d,c,j,m⟩ a);have a3:0<=k:=ω;have M:k<l.length:=ω;obtain⟨g,rfl,c0,c1,c2,c3,c4,U⟩:=HC.out wr (yi _ _);clear N HR;go_wp2_with fail
   refine(HM.out _).mono ?_;rintro _ w1 ⟨rfl,R⟩;have v:=ah R;clear R c0 c1 c2 c3 c4 U;have V:Hid (∀a,Below wr wr a->a.cell? ⟨g,k * 6,none⟩=some (J x.b)/\a.cell? ⟨g,k * 6+1,none⟩=some (J x.a)/\a.cell? ⟨g,k * 6+2,none⟩=some (J x.d)/\a.cell? ⟨g,k * 6+3,none⟩=some (J x.seq)/\a.cell? ⟨g,k * 6+4,none⟩=some (J x.c)/\a.cell? ⟨g,k * 6+5,none⟩=some (.string x.e)/\a.cell? (aT w 0)=some (J b)/\a.cell? (aT w 1)=some (J f)/\a.cell? (aT w 2)=some (J d)/\a.cell? (aT w 3)=some (J c)/\a.cell? (aT w 4)=some (J j)/\a.cell? (aT w 5)=some (.string m)):=fun a C=>by
    obtain⟨g',X,c0,c1,c2,c3,c4,U⟩:=HC.out a C;obtain rfl:g=g':=by injection X with S;injection S
    have F:=HE.out a C;exact⟨c0,c1,c2,c3,c4,U,F.a 0 _ rfl,F.a 1 _ rfl,F.a 2 _ rfl,F.a 3 _ rfl,F.a 4 _ rfl,F.a 5 _ rfl⟩
   clear HC HM HE;go_upto_region 5 with fail
   refine gl.b (fun a=>a.cell? _=some _/\a.cell? _=some _/\a.cell? _=some _/\a.cell? _=some _/\a.cell? _=some _/\a.cell? _=some _/\a.cell? _=some (J b)/\a.cell? _=some (J f)/\a.cell? _=some (J d)/\a.cell? _=some (J c)/\a.cell? _=some (J j)/\a.cell? _=some _) 6 rfl (V.out _ v.out.drew) (fun n=>?_)
   (iterate 5 refine χ ?_)
   refine te 5 fun K P=>?_;go_simp;refine(H.out _).mono ?_;rintro _ w2 ⟨rfl,G⟩;have B:Hid (Below wr wr w2):=(v.out.drew).trans (G.mono (by have:=v.out.size;simpa using this));clear G;go_wp2_with fail
   refine P.out _ _ (fun _=>V.out _ B.out) (fun n=>?_);clear P K;try simp only[pU]
   refine te 6 fun K P=>?_;go_simp;refine P.out _ _ (fun h=>absurd rfl h) (fun _=>?_);clear P K n;try simp only[pU]
   refine gl.done κ ?_ _;have z:Hid (Below Y Y w2/\Below w w w2):=⟨s.out.trans (B.out.mono s.out.size),p.out.trans (B.out.mono p.out.size)⟩;clear V H;by_cases E:(dv x && cA x ⟨b,f,d,c,j,m⟩)=true
   ·have HF:=ah (rR HX.out E u.out);obtain⟨S,h2⟩:=Bool.and_eq_true_iff.1 E;rw[S,h2];go_wp2_with fail
    go_ret;exact⟨by rw[HF.out];rfl,z.out.2⟩
   ·have O:Hid (∀y∈l.take (k+1),(dv y && cA y ⟨b,f,d,c,j,m⟩)=false):=fun y D=>by
     rw[Lc,HX.out] at D;rcases yz.1 D with D|D
     ·exact u.out y D
     ·rw[yu.1 D];simpa using E
    generalize dv x=bm at E ⊢;generalize cA x ⟨b,f,d,c,j,m⟩=bs at E ⊢;cases bm
    ·go_wp2_with fail
     go_roundw
     case rel=>exact⟨k+1,ω,by go_num,z.out.1,O.out⟩
     case measure=>simp[intOf];omega
    ·cases bs
     ·go_wp2_with fail
      go_roundw
      case rel=>exact⟨k+1,ω,by go_num,z.out.1,O.out⟩
      case measure=>simp[intOf];omega
     ·exact absurd rfl E
  ·have a0:k=l.length:=ω;have M:¬(k:Int)<(l.length:Int):=ω;have HF:Hid (gC l ⟨b,f,d,c,j,m⟩ = -1):=Er (by have:=u.out;rwa [a0,AE] at this);go_wp2_with fail
   go_ret;exact⟨by rw[HF.out];rfl,p.out⟩
open Md (PS Grp Book CG msgE keyE)
variable {a b:Ev}{k q:Nat}
section
def xR(q:Nat)(l:List Ev):Prop:=∀(i:Nat) (e:Ev),l[i]?=some e->dv e=true->gC l e=i/\(e.d=q↔e.b=1)
def xC(n:Nat)(ls:Nat->List Ev)(l:List Ev):Prop:=∀(i:Nat) (e:Ev),l[i]?=some e->e.b=2->∃s:Nat,s<n/\e.d=s/\∃(k:Nat) (x:Ev),(ls s)[k]?=some x/\gC (ls s) e=k/\x.b=1/\x.e=e.e/\∀(j:Nat) (y:Ev),j<k->(ls s)[j]?=some y->dv y=true->y.a=e.a->∃a:Nat,a<=i/\gC l y=a
def eI:dv e=true↔msgE e:=by
 unfold dv msgE;exact decide_eq_true_iff
def ig:cA a b=true↔keyE a b:=by
 unfold cA keyE;exact decide_eq_true_iff
def vK{x:Ev}(g:l[k]?=some x)(i:msgE x)(f:keyE x e)(h:∀(j:Nat) y,j<k->l[j]?=some y->msgE y->¬keyE y e):gC l e=k:=by
 refine rR g (by rw[eI.2 i,ig.2 f];rfl) fun y d=>?_;rw[List.mem_take_iff_getElem] at d;obtain⟨j,m,rfl⟩:=d;cases c:(dv l[j] && cA l[j] e) with
 |false=>rfl
 | true =>
   rw[yB] at c;exact(h j _ ω (yh ω) (eI.1 c.1) (ig.1 c.2)).elim
def Ep{z:Ev}(i:l[k]?=some z)(f:msgE z)(d:keyE z e):∃a:Nat,a<=k/\gC l e=a:=by
 obtain⟨c,rfl⟩:=ym.1 i;have g:l.findIdx (fun x=>dv x && cA x e)<l.length:=by
  rw[List.findIdx_lt_length];exact⟨_,AF c,by rw[eI.2 f,ig.2 d];rfl⟩
 refine⟨l.findIdx fun x=>dv x && cA x e,?_,by unfold gC;rw[if_pos g]⟩;refine Nat.le_of_not_lt fun h=>?_;have:=List.not_of_lt_findIdx h;rw[eI.2 f,ig.2 d] at this;cases this
def zg{c:Ev}(h:keyE a b)(k:keyE c b):keyE a c:=⟨h.1.trans k.1.symm,h.2.1.trans k.2.1.symm,h.2.2.trans k.2.2.symm⟩
variable {C:List (Int × Codec.Msg)}{G:Grp}
def Gx(h:CG C G)(m:q<G.n):xR q (G.b q).j:=fun i e d f=>by
 obtain⟨r,p⟩:=h.d m d (eI.1 f);exact⟨vK d (eI.1 f) ⟨rfl,rfl,rfl⟩ fun j y o g c=>p j y o g c,r⟩
def F2(h:CG C G)(A:q<G.n):xC G.n (fun s=>(G.b s).j) (G.b q).j:=fun i e H I=>by
 obtain⟨s,w,D,k,x,p,d,o,c,g⟩:=h.b A H I;refine⟨s,w,D,k,x,p,?_,d,o,fun j y m r f E=>?_⟩
 ·exact vK p (.inl d) c fun j y m r f t=>(h.d w p (.inl d)).2 j y m r f (zg t c)
 ·obtain⟨a,z,K,B,v,u⟩:=g j y m r (eI.1 f) E;obtain⟨b,L,F⟩:=Ep B v u;exact⟨b,ω,F⟩
def Gw{base:Nat}(Q:Option Addr)(y:Nat)(a:List Ev)(q:Nat)(w:World)(ra:w.ownsRow base 64 6 (.slice Q a.length y) a.length (az a))(Y:a.length<=300000000000)(h:xR q a) :
 Calls prog 16 #[J q,.slice Q a.length y] w fun r d=>r=.returned (.bool true)/\Below w w d:=by
 have v:Hid (∀d,Below w w d->d.ownsRow base 64 6 (.slice Q a.length y) a.length (az a)):=fun d hb=>aj ra fun g hg=>hb.block g (ra.lt g hg).2;have HH:=ah h;clear ra h;go_enter Tryz.func16,Tryz.ntmps16
 go_wp2_with fail
 go_loopw [5] (fun i wr=>∃k:Nat,k<=a.length/\i=J k/\Below _ w wr) (fun i _=>a.length - (intOf i).toNat)
 case atStart=>exact⟨0,ω,rfl,Below.refl _ _⟩
 case round=>
  obtain⟨k,hk,rfl,p⟩:=hrel;have c:=ah p;clear p;by_cases U:k<a.length
  ·obtain⟨x,R⟩:∃x,a[k]?=some x:=⟨_,yh U⟩;have V:=ah R;obtain⟨g,N,P, -⟩:=jU (v.out wr c.out) R;obtain rfl:Q=some _:=by injection P
   clear P N;have H:Hid (∀d,Below wr wr d->d.cell? ⟨g,k * 6,none⟩=some (J x.b)/\d.cell? ⟨g,k * 6+1,none⟩=some (J x.a)/\d.cell? ⟨g,k * 6+2,none⟩=some (J x.d)/\d.cell? ⟨g,k * 6+3,none⟩=some (J x.seq)/\d.cell? ⟨g,k * 6+4,none⟩=some (J x.c)/\d.cell? ⟨g,k * 6+5,none⟩=some (.string x.e)):=fun d S=>by
    obtain⟨g',N,P,Z⟩:=jU (v.out d (c.out.trans (S.mono c.out.size))) R;have:g=g':=by injection P with h1;injection h1 with h2;injection h2
    subst this;exact Z
   have HM:=ah (lC x wr);have HF:Hid (∀d,Below wr wr d->Calls prog 37 #[sT g a.length y,.agg #[J x.b,J x.a,J x.d,J x.seq,J x.c,.string x.e]] d fun r t=>r=.returned (J (gC a x))/\Below d d t):=fun d S=>tL (some ⟨g,0,none⟩) y a x d (v.out d (c.out.trans (S.mono c.out.size))) Y;have a1:0<=k:=ω;have A:k<a.length:=ω;obtain⟨I,c1,O,c3,W,T⟩:=H.out wr (Below.refl _ _);clear R;go_wp2_with fail
   refine HM.out.mono ?_;rintro _ L ⟨rfl,F⟩;have j:=ah F;clear F I c1 O c3 W T HM;obtain⟨I,c1,O,c3,W,T⟩:=H.out L j.out;by_cases D:dv x=true
   ·obtain⟨E,s⟩:=HH.out k x V.out D;have K:Hid (Calls prog 37 #[sT g a.length y,.agg #[J x.b,J x.a,J x.d,J x.seq,J x.c,.string x.e]] L fun r t=>r=.returned (J k)/\Below L L t):=by
     have:=HF.out L j.out;rwa [E] at this
    have M:=ah D;have m:=ah s;clear E HF s;rw[D];clear D;go_wp2_with fail
    refine K.out.mono ?_;rintro _ w2 ⟨rfl,z⟩;have u:=ah (j.out.trans (z.mono j.out.size));clear z I c1 O c3 W T K;obtain⟨I, -,O, -, -, -⟩:=H.out w2 u.out;clear H;by_cases f:x.b=1
    ·have B:=m.out.2 f;rw[f] at I;rw[B] at O;clear f B m M V;go_wp2_with fail
     go_roundw
     case rel=>exact⟨k+1,ω,by go_num,c.out.trans (u.out.mono c.out.size)⟩
     case measure=>simp[intOf];omega
    ·have B:¬x.d=(q:Int):=fun e=>f (m.out.1 e);have a0:(x.d == (q:Int))=false:=by simpa using B
     have a2:(x.b == 1)=false:=by simpa using f
     clear m M V B f;go_wp2_with fail
     go_roundw
     case rel=>exact⟨k+1,ω,by go_num,c.out.trans (u.out.mono c.out.size)⟩
     case measure=>simp[intOf];omega
   ·have X:dv x=false:=by simpa using D
    rw[X];clear HF H;go_wp2_with fail
    go_roundw
    case rel=>exact⟨k+1,ω,by go_num,c.out.trans (j.out.mono c.out.size)⟩
    case measure=>simp[intOf];omega
  ·have A:¬(k:Int)<(a.length:Int):=ω;go_wp2_with fail
   go_ret;exact⟨rfl,c.out⟩
end
open Go.ChangeMaps (setBlock)
open Md (Wf GW)
variable {w w':World}{gb n win lim:Nat}{ls:Nat->List Ev}{GR:Grp}{FG:Nat->Prop}
def EG:(prog.info? 37).map (fun i=>(i.zero,i.size,i.bytes))=some (some (.agg #[sN]),1,24):=κ
structure jN (w:World) (base:Nat) (ls:Nat->List Ev) (v:Value) (vs:List Value):Prop where
 b:w.ownsRow base 37 1 v vs.length vs
 a:∀(i:Nat) u,vs[i]?=some u->w.ownsRow base 64 6 u (ls i).length (az (ls i))
def jN.c{a:Nat}{v:Value}{e:List Value}(t:jN w a ls v e)(c:Below w w w'):jN w' a ls v e:=⟨aj t.b fun g b=>c.block g (t.b.lt g b).2,fun i u d=>aj (t.a i u d) fun g b=>c.block g ((t.a i u d).lt g b).2⟩
def GB{c b m D s C:Nat}{e t:TypeId}{v q:Value}{x o:List Value}(h:w.ownsRow c e s v m x)(z:w.ownsRow b t C q D o)(j:e≠t){g:Nat}(i:v.ownBlock=some g):some g≠q.ownBlock:=by
 intro f;rcases h.2 with ⟨l, -⟩|⟨E,A,F,l, -,d, -⟩
 ·rw[l] at i;cases i
 ·rcases z.2 with ⟨k, -⟩|⟨y,p,r,k, -,a, -⟩
  ·rw[k] at f;cases f
  ·rw[l] at i;rw[k] at f;have B:E=g:=by simpa[Value.ownBlock] using i
   have u:g=y:=by simpa[Value.ownBlock] using f
   subst B;subst u;rw[d] at a;simp at a;exact j a.2
def GI(T:Nat){cr:Book}{I:Bool}(j:CC w T gb n win lim cr I)(g:GY w FG gb GR)(gw:GW GR)(hn:GR.n=n)(a6:n<=6):Calls prog 15 #[pT T 0] w fun e d=>Below w w d/\∃v,e=.returned (.tuple #[v,.bool true])/\∃s:List Value,s.length=n/\jN d w.heap.size (fun i=>(GR.b i).j) v s:=by
 obtain⟨i0,a5,Z,a2,Y⟩:=info_parts EG;have HC:Hid (∀d,Below w w d->d.cell? (aT T 0)=some (pT gb 0)/\d.cell? (aT T 1)=some (J n)):=fun d U=>⟨(af.c j U (af.f j)).a 0 _ rfl,(af.c j U (af.f j)).a 1 _ rfl⟩;have HE:Hid (∀(k:Nat) d,k<n->Below w w d->Calls prog 35 #[pT gb 0,J k] d fun e K=>∃v,e=.returned (.tuple #[v,J 0])/\K.ownsRow d 64 6 v ((GR.b k).j).length (az ((GR.b k).j))/\Below d d K):=fun k d hk U=>rS gw (g.a U) (by rw[hn];exact hk);have H0:Hid (jN w w.heap.size (fun i=>(GR.b i).j) (sN) []):=⟨World.ownsRow_nil _ _ _ _,fun i u r=>absurd r ς⟩;clear j g gw hn;go_enter Tryz.func15,Tryz.ntmps15
 go_wp2_with fail
 go_loopw [4,5] (fun o i wr=>∃(k:Nat) (s:List Value),k<=n/\i=J k/\s.length=k/\Below _ w wr/\jN wr _ (fun i=>(GR.b i).j) o s) (fun _ i _=>n - (intOf i).toNat)
 case atStart=>exact⟨0,[],ω,rfl,rfl,Below.refl _ _,H0.out⟩
 case round=>
  obtain⟨k,s,hk,rfl,a4,p,V⟩:=hrel;subst a4;obtain⟨ao,vc,rfl⟩:=bG V.b;generalize H:s.length=k at V hk ⊢;have b:=ah H;clear H;have y:=ah p;have HT:=ah V;obtain⟨c0,c1⟩:=HC.out wr p;clear p V;by_cases X:k<n
  ·have N:k<n:=ω;have L:=ah (HE.out k wr X y.out);go_wp2_with fail
   refine L.out.mono ?_;rintro _ q ⟨v,rfl,l,B⟩;have Q:=ah l;have P:=ah B;obtain⟨t,a,R⟩:=bG l;have a1:=ah (HT.out.c B);clear l B L c0 c1;generalize hm:((GR.b k).j).length=m at R Q;have HM:=ah hm;clear hm;subst R;have HX:Hid (af (q.alloc (.cells #[.slice t m a] 37)) q.heap.size 37 #[.slice t m a]):=af.d q q.heap.size rfl 37 _;have HB2:Hid (Below q q (q.alloc (.cells #[.slice t m a] 37))):=(Below.refl _ _).alloc (yb _) _;have M:=ah (a1.out.c HB2.out);have f:Hid (w.heap.size<=wr/\wr.heap.size<=q):=⟨y.out.size,P.out.size⟩;have D:=M.out.b;rw[b.out] at D;have A:=ah D;clear D;go_wp2_with (at_builtin;refine wpList_append_own_at _ rfl _ _ 31 rfl w.heap.size 37 i0 (.agg #[sN]) 1 24 Tryz.underlying31 a5 Z a2 Y rfl θ _ _ _ rfl A.out ⟨q.heap.size,0,none⟩ 1 1 [.slice t m a] rfl ?c0 ?c1 ?c2 ?c3 ?c4 ?c5 ?_)
   case c0=>rfl
   case c1=>exact World.news_of_block HX.out
   case c2=>intro u r;simp only[yu] at r;subst r;rfl
   case c3=>unfold maxLen;omega
   case c4=>omega
   case c5=>have:=f.out;simp;omega
   intro v W ho C _ _;have hA:=Q.out;have G:(q.alloc (.cells #[.slice t m a] 37)).ownsRow w 64 6 (.slice t m a) m (az ((GR.b k).j)):=aj (aD hA f.out.1) fun x O=>HB2.out.block x (hA.lt x O).2;have c:∀{mm:Nat}{u:Value}{xs:List Value},(q.alloc (.cells #[.slice t m a] 37)).ownsRow w 64 6 u mm xs->W.ownsRow w 64 6 u mm xs:=fun h=>aj h fun x O=>C.block x (h.lt x O).2 (GB h A.out θ O);have z:Below w w W:=((y.out.trans (P.out.mono f.out.1)).trans (HB2.out.mono (yr f.out.1 f.out.2))).trans ⟨C.os,C.tape,C.output,C.size,fun x O=>C.block x (by have:=f.out;simp;omega) (fun e=>by have:=(A.out.lt x e.symm).1;omega)⟩;have S:Hid (Below w w W/\jN W w.heap.size (fun i=>(GR.b i).j) v (s++[.slice t m a])):=by
    refine⟨z,?_,fun i u r=>?_⟩
    ·rw[yC,b.out];exact ho
    ·rcases Fs i k with h|h
     ·rw[y7 (by rw[b.out];exact h)] at r;exact c (M.out.a i u r)
     ·rw[Fl (by rw[b.out];exact h)] at r;have a3:i=k:=by
       have:=(ym.1 r).1;rw[b.out] at this;simp at this;omega
      subst a3;rw[b.out,Nat.sub_self] at r;obtain rfl:Value.slice t m a=u:=by simpa using r
      rw[HM.out];exact c G
   clear hA G c z ho C;go_wp2_with fail
   go_roundw
   case rel=>exact⟨k+1,s++[.slice t m a],ω,by go_num,by rw[yC,b.out];rfl,S.out⟩
   case measure=>simp[intOf];omega
  ·have a0:k=n:=ω;have N:¬(k:Int)<(n:Int):=ω;go_wp2_with fail
   go_ret2
   exact⟨y.out,_,rfl,s,by have:=b.out;omega,by have:=HT.out;rwa [a0] at this⟩
def BK{v base' n:Nat}(ao:Option Addr)(T:Nat)(l:List Ev)(F vc:Nat)(c:Nat->List Ev)(M:Nat->Option Addr)(O:Nat->Nat)(w:World)(ra:w.ownsRow v 64 6 (.slice ao l.length T) l.length (az l))(b3:l.length<=300000000000)(K:F<w)
 (rv:∀s,s<n->w.cell? (aT F s)=some (.slice (M s) (c s).length (O s))/\w.ownsRow base' 64 6 (.slice (M s) (c s).length (O s)) (c s).length (az (c s))/\(c s).length<=300000000000) (h:xC n c l) :
 Calls prog 17 #[.slice ao l.length T,sT F n vc] w fun r a=>r=.returned (.bool true)/\Below w w a:=by
 have L:Hid (∀a,Below w w a->a.ownsRow v 64 6 (.slice ao l.length T) l.length (az l)):=fun a hb=>aj ra fun g hg=>hb.block g (ra.lt g hg).2;have a6:Hid (∀s,s<n->∀a,Below w w a->a.cell? (aT F s)=some (.slice (M s) (c s).length (O s))/\a.ownsRow base' 64 6 (.slice (M s) (c s).length (O s)) (c s).length (az (c s))/\(c s).length<=300000000000):=fun s E a hb=>⟨by rw[show a.cell? (aT F s)=w.cell? (aT F s) from World.cell?_of_block (hb.block F K)];exact(rv s E).1,aj (rv s E).2.1 fun g hg=>hb.block g ((rv s E).2.1.lt g hg).2,(rv s E).2.2⟩;have HH:=ah h;clear ra rv h K;go_enter Tryz.func17,Tryz.ntmps17
 go_wp2_with fail
 go_loopw [5] (fun i wr=>∃k:Nat,k<=l.length/\i=J k/\Below _ w wr) (fun i _=>l.length - (intOf i).toNat)
 case atStart=>exact⟨0,ω,rfl,Below.refl _ _⟩
 case round=>
  obtain⟨i,hi,rfl,B⟩:=hrel;have b:=ah B;clear B;by_cases b1:i<l.length
  ·obtain⟨x,hx⟩:∃x,l[i]?=some x:=⟨_,yh b1⟩;have HX:=ah hx;obtain⟨g,H,R, -⟩:=jU (L.out wr b.out) hx;obtain rfl:ao=some _:=by injection R
   clear R H;have HC:Hid (∀a,Below wr wr a->a.cell? ⟨g,i * 6,none⟩=some (J x.b)/\a.cell? ⟨g,i * 6+1,none⟩=some (J x.a)/\a.cell? ⟨g,i * 6+2,none⟩=some (J x.d)/\a.cell? ⟨g,i * 6+3,none⟩=some (J x.seq)/\a.cell? ⟨g,i * 6+4,none⟩=some (J x.c)/\a.cell? ⟨g,i * 6+5,none⟩=some (.string x.e)):=fun a C=>by
    obtain⟨g',H,R,N⟩:=jU (L.out a (b.out.trans (C.mono b.out.size))) hx;have:g=g':=by injection R with h1;injection h1 with h2;injection h2
    subst this;exact N
   have e2:0<=i:=ω;have a4:i<l.length:=ω;obtain⟨c0,c1,c2,c3,c4,c5⟩:=HC.out wr (Below.refl _ _);clear hx;by_cases hd:x.b=2
   ·obtain⟨s,E,e1,k,y,hy,a1,a9,W,u⟩:=HH.out i x HX.out hd;have a0:=ah u;have HY:Hid ((c s)[k]?=some y):=hy;have a5:Hid (y.b=1/\y.e=x.e):=⟨a9,W⟩;have b2:k<(c s).length:=(ym.1 hy).1;obtain⟨v0,r0,a8⟩:=a6.out s E wr b.out;obtain⟨t,b0,U, -⟩:=jU r0 hy;have p:M s=some ⟨t,0,none⟩:=by injection U
    clear U b0 u a9 W;have HF:Hid (Calls prog 37 #[.slice (M s) (c s).length (O s),.agg #[J x.b,J x.a,J x.d,J x.seq,J x.c,.string x.e]] wr fun r f=>r=.returned (J (gC (c s) x))/\Below wr wr f):=tL (M s) (O s) (c s) x wr r0 a8;have G:Hid (∀a,Below wr wr a->∀(j:Nat) z,(c s)[j]?=some z->a.cell? ⟨t,j * 6,none⟩=some (J z.b)/\a.cell? ⟨t,j * 6+1,none⟩=some (J z.a)/\a.cell? ⟨t,j * 6+2,none⟩=some (J z.d)/\a.cell? ⟨t,j * 6+3,none⟩=some (J z.seq)/\a.cell? ⟨t,j * 6+4,none⟩=some (J z.c)/\a.cell? ⟨t,j * 6+5,none⟩=some (.string z.e)):=fun a C j z hz=>by
     obtain⟨-,r1, -⟩:=a6.out s E a (b.out.trans (C.mono b.out.size));obtain⟨g',H,R,N⟩:=jU r1 hz;have:t=g':=by injection R with h1;rw[p] at h1;injection h1 with h2;injection h2
     subst this;exact N
    have b7:Hid (∀a,Below wr wr a->∀z:Ev,Calls prog 37 #[sT g l.length T,.agg #[J z.b,J z.a,J z.d,J z.seq,J z.c,.string z.e]] a fun r f=>r=.returned (J (gC l z))/\Below a a f):=fun a C z=>tL (some ⟨g,0,none⟩) T l z a (L.out a (b.out.trans (C.mono b.out.size))) b3;have c9:(0:Int)<=(s:Int):=ω;have e5:(s:Int)<(n:Int):=ω;have c7:¬(s:Int)<0:=ω;have c8:¬(n:Int)<=(s:Int):=ω;rw[p,a1,e1,hd] at HF;rw[p] at v0;rw[hd] at c0;rw[e1] at c2;generalize A:(c s).length=m at v0 HF b2 a8;have HM:=ah A;clear A a1 e1 hy p r0;go_wp2_with fail
    refine HF.out.mono ?_;rintro _ w1 ⟨rfl,a7⟩;have D:=ah a7;clear a7 c0 c1 c2 c3 c4 c5 HF;obtain⟨-, -, -, -, -,c5⟩:=HC.out w1 D.out;obtain⟨P, -, -, -, -,Q⟩:=G.out w1 D.out k y HY.out;rw[a5.out.1] at P;rw[a5.out.2] at Q;have d7:(0:Int)<=(k:Int):=ω;have d6:¬(k:Int)<0:=ω;have c6:(k:Int)<(m:Int):=ω;go_wp2_with fail
    go_quiet (fail)
    go_wp2_with fail
    clear c5 P Q;obtain⟨S,b5⟩:∃S,S=wr:=⟨_,rfl⟩;subst b5;go_loopw [8] (fun jv wq=>∃j:Nat,j<=k/\jv=J j/\Below S S wq) (fun jv _=>k - (intOf jv).toNat)
    case atStart=>exact⟨0,ω,rfl,below_drewN D.out _⟩
    case round=>
     obtain⟨j,hj,rfl,X⟩:=hrel;have o:=ah X;clear X;by_cases b4:j<k
     ·obtain⟨z,hz⟩:∃z,(c s)[j]?=some z:=⟨_,yh (by rw[HM.out];omega)⟩;have HZ:=ah hz;have V:=ah (lC z wr);have d8:(0:Int)<=(j:Int):=ω;have b9:(j:Int)<(k:Int):=ω;have e4:(j:Int)<(m:Int):=ω;obtain⟨P,d1,d2,d3,d4,Q⟩:=G.out wr o.out j z hz;clear hz;go_wp2_with fail
      refine V.out.mono ?_;rintro _ w2 ⟨rfl,Y⟩;have HB2:=ah (o.out.trans (Y.mono o.out.size));clear Y V P d1 d2 d3 d4 Q;obtain⟨P,d1,d2,d3,d4,Q⟩:=G.out w2 HB2.out j z HZ.out;obtain⟨-,c1, -, -, -, -⟩:=HC.out w2 HB2.out;by_cases A:dv z=true
      ·by_cases q:z.a=x.a
       ·obtain⟨I,e0,Z⟩:=a0.out j z b4 HZ.out A q;have a2:Hid (∀a,Below S S a->Calls prog 37 #[sT g l.length T,.agg #[J z.b,J z.a,J z.d,J z.seq,J z.c,.string z.e]] a fun r f=>r=.returned (J I)/\Below a a f):=fun a C=>by
         have:=b7.out a C z;rwa [Z] at this
        rw[A];rw[<-q] at c1;have e3:¬(I:Int)<0:=ω;have d9:¬(i:Int)<(I:Int):=ω;clear Z A q;go_wp2_with fail
        go_quiet (fail)
        go_wp2_with fail
        refine(a2.out _ (below_drewN HB2.out _)).mono ?_;rintro _ w3 ⟨rfl,a3⟩;have b8:=ah ((below_drewN HB2.out _).trans (a3.mono (below_drewN HB2.out _).size));clear a3 a2 P d1 d2 d3 d4 Q c1;go_wp2_with fail
        go_roundw
        case rel=>exact⟨j+1,ω,by go_num,b8.out⟩
        case measure=>simp[intOf];omega
       ·have K:(z.a == x.a)=false:=by simpa using q
        rw[A];go_wp2_with fail
        go_quiet (fail)
        go_wp2_with fail
        go_roundw
        case rel=>exact⟨j+1,ω,by go_num,below_drewN HB2.out _⟩
        case measure=>simp[intOf];omega
      ·have b6:dv z=false:=by simpa using A
       rw[b6];go_wp2_with fail
       go_quiet (fail)
       go_wp2_with fail
       go_roundw
       case rel=>exact⟨j+1,ω,by go_num,below_drewN HB2.out _⟩
       case measure=>simp[intOf];omega
     ·have b9:¬(j:Int)<(k:Int):=ω;go_wp2_with fail
      go_roundw
      case rel=>exact⟨i+1,ω,by go_num,b.out.trans (o.out.mono b.out.size)⟩
      case measure=>simp[intOf];omega
   ·go_wp2_with fail
    go_roundw
    case rel=>exact⟨i+1,ω,by go_num,b.out⟩
    case measure=>simp[intOf];omega
  ·have a4:¬(i:Int)<(l.length:Int):=ω;go_wp2_with fail
   go_ret;exact⟨rfl,b.out⟩
end
end Go.Proofs.YtoklolfaemhfnaaGreatDoor
namespace Go.Cr
section
open Go Go.Conc
variable {i j:Nat}{p:List Nat}{a:Act}
def fj(ops:Array Oper)(i:Nat):List Nat:=match ops[i]? with
 |some o=>(o.after.toList.filter (Region.binds .any)).map (·.on)
 |none=>[]
def Fv(ops:Array Oper):Nat->List Nat->List Nat
 |0,l=>l
 |f+1,l=>Fv ops f (l++l.flatMap (fj ops))
def dR(ops:Array Oper)(i:Nat):Option Nat:=(ops[i]?).bind (·.dst)
def iw(ops:Array Oper)(m sz:Nat):Bool:=
 decide (m<ops.size) && ((List.range m).all fun i=>match dR ops i with|some d=>decide (d<sz)|none=>false)
 && ((List.range m).all fun i=>(List.range m).all fun j=>i == j || !(dR ops i == dR ops j))
 && ((List.range ops.size).all fun i=>(fj ops i).all fun j=>decide (j<i))
 && ((List.range ops.size).all fun i=>decide (i<m) || (List.range m).all fun j=>(Fv ops 5 (fj ops i)).contains j)
section
variable {ops:Array Oper}{m sz:Nat}
def iw.e(h:iw ops m sz=true):m<ops.size:=by
 simp only[iw,yB,decide_eq_true_eq] at h;exact h.1.1.1.1
def iw.d(h:iw ops m sz=true)(b:i<m):∃d,dR ops i=some d/\d<sz:=by
 simp only[iw,yB,y5,zD] at h;have:=h.1.1.1.2 i b;cases e:dR ops i with
 |none=>rw[e] at this;cases this
 |some d=>rw[e] at this;exact⟨d,rfl,by simpa using this⟩
def iw.f(h:iw ops m sz=true)(c:i<m)(d:j<m)(b:i≠j):dR ops i≠dR ops j:=by
 simp only[iw,yB,y5,zD] at h;have:=h.1.1.2 i c j d;simpa[b] using this
def iw.c(h:iw ops m sz=true)(b:i<ops.size)(c:j∈fj ops i):j<i:=by
 simp only[iw,yB,y5,zD] at h;have:=h.1.2 i b j c;simpa using this
def iw.last(h:iw ops m sz=true)(c:i<ops.size)(e:m<=i)(d:j<m):j∈Fv ops 5 (fj ops i):=by
 simp only[iw,yB,y5,zD] at h;have:=h.2 i c;rw[Bool.or_eq_true] at this;rcases this with b|b
 ·simp at b;omega
 ·rw[y5] at b;simpa using b j (zD.2 d)
def CS(e:∀i∈p,∀j∈fj ops i,j∈p):∀(f:Nat) (l:List Nat),(∀x∈l,x∈p)->∀x∈Fv ops f l,x∈p:=by
 intro f;induction f with
 |zero=>intro l h;exact h
 | succ f k =>
   intro l h;refine k _ fun x c=>?_;rcases yz.1 c with b|b
   ·exact h x b
   ·obtain⟨y,d,g⟩:=Km.1 b;exact e y (h y d) x g
structure sj (a0:Act) (ops:Array Oper) (vals:Nat->Value) (p:List Nat) (a:Act):Prop where
 e:∀j∈p,∀d,dR ops j=some d->a.tmps[d]?=some (vals j)
 c:∀t,(∀j∈p,dR ops j≠some t)->a.tmps[t]?=a0.tmps[t]?
 defers:a.defers=a0.defers
 size:a.tmps.size=a0.tmps.size
def AM(a0:Act)(ops:Array Oper)(vals:Nat->Value):List Nat->Act:=List.foldl (fun a i=>a.put (dR ops i) (vals i)) a0
variable {a0:Act}{vals:Nat->Value}
def sj.nil:sj a0 ops vals [] a0:=⟨fun _ b=>(yU b).elim,fun _ _=>rfl,rfl,rfl⟩
def sj.put(f:iw ops m a0.tmps.size=true)(h:sj a0 ops vals p a)(w:∀j∈p,j<m)(u:i<m)(r:i ∉ p):sj a0 ops vals (p++[i]) (a.put (dR ops i) (vals i)):=by
 obtain⟨d,g,n⟩:=iw.d f u;rw[g];have e:(a.put (some d) (vals i)).tmps=a.tmps.setIfInBounds d (vals i):=rfl;refine⟨fun j o k b=>?_,fun t s=>?_,h.defers,by rw[e,Array.size_setIfInBounds];exact h.size⟩
 ·rw[e];rcases yz.1 o with c|c
  ·have q:d≠k:=fun l=>by
    subst l;exact iw.f f u (w j c) (fun v=>r (v▸c)) (g.trans b.symm)
   rw[yP q];exact h.e j c k b
  ·rw[yu] at c;subst c;obtain rfl:d=k:=Option.some.inj (g.symm.trans b);rw[yR (by rw[h.size];exact n)]
 ·rw[e,yP (fun l:d=t=>s i ς (by rw[g,l]))];exact h.c t fun j o=>s j (by simp[o])
def sj.fin(f:iw ops m a0.tmps.size=true):∀(q p:List Nat) (a:Act),sj a0 ops vals p a->(p++q).Nodup->(∀j∈p++q,j<m)->sj a0 ops vals (p++q) (q.foldl (fun a i=>a.put (dR ops i) (vals i)) a):=by
 intro q;induction q with
 |nil=>intro p a h _ _;simpa using h
 | cons i q l =>
   intro p a h c b;have e:p++i::q=(p++[i])++q:=ς;rw[e] at c b ⊢;have d:=fun g=>(GZ.1 (GZ.1 c).1).2.2 i g i ς rfl;exact l _ _ (h.put f (fun j k=>b j (by simp[k])) (b i ς) d) c b
def sj.f{q:List Nat}{d:Act}(h:sj a0 ops vals p a)(g:sj a0 ops vals q d)(c:∀x,x∈p↔x∈q):a=d:=by
 have:a.tmps=d.tmps:=by
  refine LN fun t=>?_;by_cases f:∃j∈p,dR ops j=some t
  ·obtain⟨j,b,k⟩:=f;rw[h.e j b t k,g.e j ((c j).1 b) t k]
  ·rw[h.c t fun j b e=>f ⟨j,b,e⟩,g.c t fun j b e=>f ⟨j,(c j).2 b,e⟩]
 cases a;cases d;simp only at this;subst this;have:=h.defers.trans g.defers.symm;simp only at this;rw[this]
end
def rf(m n:Nat):Array Bool:=(List.replicate m true++List.replicate (n - m) false).toArray
section
variable {P:Program}{main:Bool}{K:Nat->Prop}{A:World->Prop}{X:Event->Prop}{Stop:(Nat->Prop)->Goroutine->World->Prop}{b:Frame}{k:List Item}{cs:List Frame}{ops:Array Oper}
def ox{E:Act}{m:Nat}{vals:Nat->Value}{I:(Nat->Prop)->World->Prop}(z:iw ops m E.tmps.size=true)
 (R:∀i,i<m->∀(a:Act) (M:List Nat) (O:Nat->Prop) (w:World),(∀j∈fj ops i,∀d,dR ops j=some d->a.tmps[d]?=some (vals j))->(∀t,(∀j,j<m->dR ops j≠some t)->a.tmps[t]?=E.tmps[t]?)->I O w->
  (∀O' w',I O' w'->Go.Pm.Way P main K A X Stop O' (G (b.at (a.put (dR ops i) (vals i)) (.inRegion ops M::k)) cs) w')->Go.Pm.Way P main K A X Stop O (G (b.at a (.inRegion ops (i::M)::k)) cs) w)
 (hk:∀O w,I O w->∀l∈ik ops (ops.size - m) (rf m ops.size),Go.Pm.Way P main K A X Stop O (G (b.at (AM E ops vals (List.range m)) (.inRegion ops l::k)) cs) w) :
 ∀O w,I O w->∀l∈ik ops ops.size (Array.replicate ops.size false),Go.Pm.Way P main K A X Stop O (G (b.at E (.inRegion ops l::k)) cs) w:=by
 have c3:=iw.e z;have b1:∀(f:Nat) (p:List Nat) (c:Array Bool) (a:Act) (O:Nat->Prop) (w:World),c.toList.count false=f->c.size=ops.size->p.Nodup->(∀j∈p,j<m)->(∀j,c.getD j false=true↔j∈p)->(∀i∈p,∀j∈fj ops i,j∈p)->sj E ops vals p a->I O w->
  ∀l∈ik ops f c,Go.Pm.Way P main K A X Stop O (G (b.at a (.inRegion ops l::k)) cs) w:=by
  intro f;induction f with
  | zero =>
    intro p c a O w s Z _ U B _ _ _ _ _;exfalso
    have hm:m<c.size:=ω;have u:c.getD m false=true:=by
     have T:=(List.count_eq_zero.1 s);rw[ya,yl hm];simp only[yv];cases Y:c[m] with
     |true=>rfl
     |false=>exact absurd (Y▸Array.getElem_mem_toList hm) T
    have:=U m ((B m).1 u);omega
  | succ f ih =>
    intro p c a O w s Z b6 U B hc hd hI l D;by_cases v:∀j,j<m->j∈p
    ·have L:∀x,x∈p↔x∈List.range m:=fun x=>⟨fun h=>zD.2 (U x h),fun h=>v x (zD.1 h)⟩;have W:sj E ops vals (List.range m) (AM E ops vals (List.range m)):=by
      have:=sj.fin (vals:=vals) z (List.range m) [] E sj.nil (by simpa using List.nodup_range) ς;rw[List.nil_append] at this;exact this
     have ha:=hd.f W L;have a4:c=rf m ops.size:=by
      refine Array.ext (by simp[rf];omega) fun t u T=>?_;have S:=B t;rw[ya,yl u] at S;simp only[yv] at S;have h4:(rf m ops.size)[t]=decide (t<m):=by
       simp only[rf,yf];rw[List.getElem_append];split
       ·rename_i h;simp at h;simp[h]
       ·rename_i h;simp at h;simp;omega
      rw[h4];rw[Bool.eq_iff_iff,S,L t,zD];simp
     subst a4;have hf:f+1=ops.size - m:=by
      rw[<-s];simp[rf,List.count_replicate]
     rw[hf] at D;rw[ha];exact hk O w hI l D
    ·
     have F:∀i,i∈Region.ready .any ops c->i<m/\i ∉ p/\i<c.size/\c.getD i true=false/\∀j∈fj ops i,j∈p:=by
      intro i hi;obtain⟨h0,o,ho,N⟩:=mem_ready.1 hi;have a6:=(yk.1 ho).1;have q:∀j∈fj ops i,j∈p:=fun j r=>by
       simp only[fj,ho,yW,yM] at r;obtain⟨e,⟨he,Y⟩,rfl⟩:=r;exact(B _).1 (N e (by simpa using he) Y)
      have C:i<m:=by
       refine Nat.lt_of_not_le fun b2=>v fun j r=>?_;exact CS hc 5 _ q j (iw.last z a6 b2 r)
      refine⟨C,fun H=>?_,ω,h0,q⟩;have u:=(B i).2 H;rw[ya,yl ω] at h0 u;simp only[yv] at h0 u;rw[h0] at u;cases u
     have b5:Region.ready .any ops c≠[]:=by
      have b7:∃j,j<m/\j ∉ p:=Classical.byContradiction fun a9=>v fun j r=>Classical.byContradiction fun h=>a9 ⟨j,r,h⟩;have a1:∀n j,j<=n->j<m->j ∉ p->∃i,i<m/\i ∉ p/\∀x,x<i->x∈p:=by
       intro n;induction n with
       |zero=>intro j u T S;exact⟨j,T,S,fun x Q=>ω⟩
       | succ n a8 =>
         intro j u T S;by_cases Q:∃x,x<j/\x ∉ p
         ·obtain⟨x,a2,a5⟩:=Q;exact a8 x ω ω a5
         ·exact⟨j,T,S,fun x a2=>Classical.byContradiction fun h=>Q ⟨x,a2,h⟩⟩
      obtain⟨j,c1,c0⟩:=b7;obtain⟨i,c2,b4,a7⟩:=a1 j j (yb _) c1 c0;have g:i<ops.size:=ω;have:i∈Region.ready .any ops c:=mem_ready.2 ⟨by
       have u:¬c.getD i false=true:=fun h=>b4 ((B i).1 h);rw[ya,yl (by omega:i<c.size)] at u ⊢;simpa using u,ops[i],yl g,fun e he Y=>(B _).2 (a7 _ (iw.c z g (by
        simp only[fj,yl g,yW,yM];exact⟨e,⟨by simpa using he,Y⟩,rfl⟩)))⟩
      intro h;rw[h] at this;cases this
     have a3:(Region.ready .any ops c).isEmpty=false:=by
      cases hr:Region.ready .any ops c with
      |nil=>exact absurd hr b5
      |cons x xs=>rfl
     simp only[ik,a3,yH,if_false,Km,yW] at D;obtain⟨i,hi,l',b8,rfl⟩:=D;obtain⟨C,H,g,V,q⟩:=F i hi;refine R i C a l' O w (fun j r d b0=>hd.e j (q j r) d b0) (fun t ht=>hd.c t fun j r=>ht j (U j r)) hI fun O' w' b9=>?_;have b3:c[i]=false:=by
      rw[ya,yl g] at V;simpa using V
     refine ih (p++[i]) (c.setIfInBounds i true) _ O' w' ?_ (by simpa using Z) ?_ ?_ ?_ ?_ (hd.put z U C H) b9 l' b8
     ·rw[Array.toList_setIfInBounds,List.count_set (by simpa using g)];have:c.toList[i]'(by simpa using g)=false:=by simpa using b3
      rw[this,s];simp
     ·rw[GZ];exact⟨b6,ς,fun x Q y hy e=>by simp at hy;subst hy;subst e;exact H Q⟩
     ·intro j r;rcases yz.1 r with h|h
      ·exact U j h
      ·simp at h;omega
     ·intro j;by_cases e:j=i
      ·subst e;simp[Array.getD_eq_getD_getElem?,Array.getElem?_setIfInBounds_self_of_lt g]
      ·rw[ya,yP (fun h=>e h.symm),<-ya,B j];simp[e]
     ·intro x Q j r;rcases yz.1 Q with h|h
      ·simp[hc x h j r]
      ·simp at h;subst h;simp[q j r]
 intro O w hI l B;refine b1 ops.size [] (Array.replicate ops.size false) E O w ?_ ς ς ς (fun j=>?_) ς sj.nil hI l B
 ·simp
 ·simp[Array.getD_eq_getD_getElem?,Array.getElem?_replicate];split <;> simp
end
end
section
open Go Go.Conc Go.RowKit Go.Proofs
open Go.Pm (Rely Guar Ev grow Perm Fam Loose Among Sim Ran Sup Ext)
structure Gh (π:Perm) (w wa:World) (O:Nat->Prop):Prop where
 a:Loose fam π w wa
 d:Go.Pm.Shut fam w
 f:Tabs w
 e:Tabs wa
 c:Among fam π w.heap.size O
def lK(L:List (Nat × Obj))(O:Nat->Prop)(π:Perm)(n:Nat)(wa:World):Prop:=∀x∈L,O x.1/\wa.heap[x.1]?=some x.2/\∀r,7<=r->r<n->π.f r≠x.1
structure qp (O K:Nat->Prop) (w:World):Prop where
 c:∀b,O b->b<w.heap.size
 a:∀b,K b->b<w.heap.size
 ok:∀b,O b->¬K b
section
variable {K:Nat->Prop}{A:World->Prop}{X:Event->Prop}{Stop:(Nat->Prop)->Goroutine->World->Prop}{O:Nat->Prop}{g:Goroutine}{π:Perm}{w wa waB:World}{L:List (Nat × Obj)}
def Gh.rely(h:Gh π w wa O)(d:∀b,b<2->K b)(a:Rely O K A wa waB):Gh π w waB O:=⟨h.a.rely h.c a,h.d,h.f,leafLaw.a wa waB (fun b c=>a.a b (.inr (d b c))) h.e,h.c⟩
def Gh.b(h:Gh π w wa O){r o:Nat}{v:Value}(a:7<=r)(b:w.cell? (aT r o)=some v):wa.cell? ⟨π.f r,o,none⟩=some (v.pm π)/\O (π.f r):=
 ⟨Sim.j h.a.i (a:=(aT r o)) a b,h.c r a (yI w _ b)⟩
def lK.rely(h:lK L O π w.heap.size wa)(b:Rely O K A wa waB):lK L O π w.heap.size waB:=fun x a=>⟨(h x a).1,(b.a x.1 (.inl (h x a).1)).trans (h x a).2.1,(h x a).2.2⟩
def lL(h:Go.Pm.Way prog true K A X Stop O g w)(e:qp O K w):Go.Pm.Way prog true K A X (fun O g w=>Stop O g w/\qp O K w) O g w:=by
 induction h with
 |stop h=>exact .stop fun d a=>⟨h d a,fun b c=>yg (e.c b c) a.size,fun b c=>yg (e.a b c) a.size,e.ok⟩
 | @step O g w i f _ n =>
   refine .step i f fun d r t s a k=>?_;obtain⟨q,p,o,l,j⟩:=f d a;rw[l] at k;obtain⟨rfl,rfl,rfl⟩:=aF k;refine n d _ _ _ a l ⟨fun b c=>?_,fun b c=>?_,fun b c m=>?_⟩
   ·rcases c with c|c
    ·exact yg (e.c b c) (yr a.size j.size)
    ·exact c.2
   ·exact yg (e.a b c) (yr a.size j.size)
   ·rcases c with c|c
    ·exact e.ok b c m
    ·have:=e.a b m;have:=a.size;omega
def fE(S:∀b,b<2->K b)(h:Gh π w wa O)(U:lK L O π w.heap.size wa){f:FuncId}(hF:fam f=true)(D:fam.leaf f=false){args j:Array Value}(T:∀v∈args,Sup fam w.heap.size v)(o:args.map (Value.pm π)=j){R:Ending->World->Prop}(z:∀E,Ext w E->Calls prog f args (w.tp E) R)(V:∀e k,R e k->∃v,e=.returned v){c:Frame}{m:List Frame}
 (hk:∀v k a d q,R (.returned v) k->Gh a k d q->lK L q a k.heap.size d->w.heap.size<=k->(∀r,r<w.heap.size->a.f r=π.f r)->Sup fam k.heap.size v->Go.Pm.Way prog true K A X Stop q (G (c.finish (v.pm a)) m) d) :
 Go.Pm.Way prog true K A X Stop O (G (Frame.enter prog f j .normal) (c::m)) wa:=by
 rw[<-o];refine Go.Pm.rz progOk leafLaw S (fun O π n wa C l Q x p=>⟨(l x p).1,(Q.a x.1 (.inl (l x p).1)).trans (l x p).2.1,(l x p).2.2⟩) (fun O π a w wa k d l _ F i x p=>?_) U h.a h.d h.f h.e h.c hF D T z V fun v k a d q s t h3 h4 Y N W P M l=>hk v k a d q s ⟨t,h3,h4,Y,N⟩ l W P M;obtain⟨Z,I,H⟩:=l x p;have B:=(yk.1 I).1;refine⟨.inl Z,(i.j x.1 B fun r s t=>H r s t).trans I,fun r s t e=>?_⟩;by_cases z:r<w
 ·exact H r s z (by rw[<-i.c r z];exact e)
 ·have:=i.k r ω t;omega
end
end
end Go.Cr
namespace Go.Proofs.YtoklolfaemhfnaaGreatDoor
section
open Go.RowKit
open Go.Cr Go.Conc
open Go.Pm (Rely Perm Sup Ext)
open Md (Grp Book)
def GY.d{w w':World}{FG:Nat->Prop}{gb:Nat}{G:Grp}(g:GY w FG gb G)(h:w'.heap=w.heap):GY w' FG gb G:=by
 obtain⟨pb,bl,Fp,Fn,nv,g,hW⟩:=g;exact⟨pb,bl,Fp,Fn,nv,g.k (fun x _=>by rw[h]) (fun x _=>by rw[h]) (by rw[h];exact yb _),hW⟩
def GY.f{w:World}{FG:Nat->Prop}{gb:Nat}{G:Grp}(g:GY w FG gb G):7<=gb/\gb<w:=by
 obtain⟨pb,bl,Fp,Fn,nv,g,hW⟩:=g;exact⟨g.g.1,g.net.a.f⟩
def jY{w:World}{b:Nat}(h10:7<=b)(hb:b<w):Sup fam w.heap.size (pT b 0):=fun σ hσ=>by
 have:σ.f b=b:=hσ.1 b h10 hb;simp[Addr.pm,this]
def eM{n:Nat}{v:Value}(h:∀ρ:Perm,v.pm ρ=v):Sup fam n v:=fun σ _=>h σ
structure gN where
 n:Nat
 d:Nat
 b:Nat
 a:Bool
abbrev zV:=Grp->Book->Prop
def Mq(c:gN)(P0 G0:Nat)(J:zV)(L:List (Nat × Obj))(O:Nat->Prop)(wa:World):Prop:=
 ∃(π:Perm) (w:World) (pp gb:Nat) (FG:Nat->Prop) (G:Grp) (cr:Book),Gh π w wa O/\lK L O π w.heap.size wa/\π.f pp=P0/\π.f gb=G0/\7<=pp/\CC w pp gb c.n c.d c.b cr c.a/\¬FG pp/\GY w FG gb G/\J G cr
section
variable {c:gN}{P0 G0:Nat}{J J':zV}{L:List (Nat × Obj)}{O K:Nat->Prop}{A:World->Prop}{X:Event->Prop}{Stop:(Nat->Prop)->Goroutine->World->Prop}{wa waB:World}
def Mq.rely(h:Mq c P0 G0 J L O wa)(hK:∀b,b<2->K b)(hr:Rely O K A wa waB):Mq c P0 G0 J L O waB:=by
 obtain⟨π,w,pp,gb,FG,G,cr,h1,h2,h3⟩:=h;exact⟨π,w,pp,gb,FG,G,cr,h1.rely hK hr,h2.rely hr,h3⟩
def Mq.b(h:Mq c P0 G0 J L O wa)(hJ:∀G cr,J G cr->J' G cr):Mq c P0 G0 J' L O wa:=by
 obtain⟨π,w,pp,gb,FG,G,cr,h1,h2,h3,h4,h5,h6,h7,h8,h9⟩:=h;exact⟨π,w,pp,gb,FG,G,cr,h1,h2,h3,h4,h5,h6,h7,h8,hJ _ _ h9⟩
def Mq.e(h:Mq c P0 G0 J L O wa):∃G cr,J G cr/\Mq c P0 G0 (fun G' cr'=>G'=G/\cr'=cr) L O wa:=by
 obtain⟨π,w,pp,gb,FG,G,cr,h1,h2,h3,h4,h5,h6,h7,h8,h9⟩:=h;exact⟨G,cr,h9,π,w,pp,gb,FG,G,cr,h1,h2,h3,h4,h5,h6,h7,h8,rfl,rfl⟩
def Mq.a{G:Grp}{cr:Book}(h:Mq c P0 G0 (fun G' cr'=>G'=G/\cr'=cr) L O wa):O P0/\wa.cell? (aT P0 0)=some (pT G0 0)/\wa.cell? (aT P0 1)=some (.int .i64 c.n)/\(∀k,k<6->wa.cell? ⟨P0,4+k,none⟩=some (.bool (cr k)))/\wa.cell? (aT P0 10)=some (.bool c.a):=by
 obtain⟨π,w,pp,gb,FG,G',cr',h1,h2,rfl,rfl,h5,h6, -, -,rfl,rfl⟩:=h;have c0:=h1.b h5 (af.a h6 0 _ rfl);have c1:=h1.b h5 (af.a h6 1 _ rfl);have c10:=h1.b h5 (af.a h6 10 _ rfl);refine⟨c0.2,by simpa[Addr.pm] using c0.1,by simpa using c1.1,fun k hk=>?_,by simpa using c10.1⟩;match k,hk with
 |0,_=>simpa using (h1.b h5 (af.a h6 4 _ rfl)).1
 |1,_=>simpa using (h1.b h5 (af.a h6 5 _ rfl)).1
 |2,_=>simpa using (h1.b h5 (af.a h6 6 _ rfl)).1
 |3,_=>simpa using (h1.b h5 (af.a h6 7 _ rfl)).1
 |4,_=>simpa using (h1.b h5 (af.a h6 8 _ rfl)).1
 |5,_=>simpa using (h1.b h5 (af.a h6 9 _ rfl)).1
def Mq.f(h:Mq c P0 G0 J L O wa)(hK:∀b,b<2->K b){f:FuncId}(hF:fam f=true)(hlf:fam.leaf f=false)(onG:Bool){args:List Value}(ha:∀v∈args,∀ρ:Perm,v.pm ρ=v){Q:Value->zV}{cf:Frame}{rest:List Frame}
 (hc:∀w pp gb FG G cr,CC w pp gb c.n c.d c.b cr c.a->¬FG pp->GY w FG gb G->J G cr->Calls prog f (Value.pointer (some ⟨if onG then gb else pp,0,none⟩)::args).toArray w fun e w'=>∃v,e=.returned v/\(∀ρ:Perm,v.pm ρ=v)/\∃G',GT w w' FG gb G'/\Q v G' cr)
 (hk:∀v O' wa',Mq c P0 G0 (Q v) L O' wa'->Go.Pm.Way prog true K A X Stop O' (G (cf.finish v) rest) wa') :
 Go.Pm.Way prog true K A X Stop O (G (Frame.enter prog f (Value.pointer (some ⟨if onG then G0 else P0,0,none⟩)::args).toArray .normal) (cf::rest)) wa:=by
 obtain⟨π,w,pp,gb,FG,G,cr,h1,h2,rfl,rfl,h5,h6,h7,h8,h9⟩:=h;have hgb:=h8.f;have hpp:pp<w:=af.f h6;refine fE hK h1 h2 hF hlf (args:=(Value.pointer (some ⟨if onG then gb else pp,0,none⟩)::args).toArray) (fun v hv=>?_) ?_ (R:=fun e w'=>∃v,e=.returned v/\(∀ρ:Perm,v.pm ρ=v)/\∃G',(∀k,k<w.heap.size->¬FG k->w'.heap[k]?=w.heap[k]?)/\GY w' (aY FG w) gb G'/\Q v G' cr) (fun τ _=>?_) (fun e w' h=>?_) fun v w' π' wa' O' hR hg hL hsz hsame _=>?_
 ·rw[Cy] at hv;rcases yF.1 hv with rfl|hv
  ·cases onG
   ·exact jY h5 hpp
   ·exact jY hgb.1 hgb.2
  ·exact eM (ha v hv)
 ·rw[Fj,yN,iL fun v hv=>ha v hv π];cases onG <;> simp[Addr.pm]
 ·refine(hc (w.tp τ) pp gb FG G cr h6 h7 (h8.d rfl) h9).mono ?_;rintro e w' ⟨v,rfl,hv,G',hgs,hq⟩;exact⟨v,rfl,hv,G',fun k hk hn=>hgs.1.block k hk hn,hgs.2,hq⟩
 ·obtain⟨v,h, -⟩:=h;exact⟨v,h⟩
 ·obtain⟨v',e,hv,G',hbl,hgx,hq⟩:=hR;injection e with e;subst e;rw[hv];refine hk v O' wa' ⟨π',w',pp,gb,aY FG w,G',cr,hg,hL,hsame pp hpp,hsame gb hgb.2,h5,(hbl pp hpp h7).trans h6,fun e=>?_,hgx,hq⟩;rcases e with e|e
  ·exact h7 e
  ·omega
def Mq.g(h:Mq c P0 G0 J L O wa)(hK:∀b,b<2->K b){f:FuncId}(hF:fam f=true)(hlf:fam.leaf f=false){args:List Value}(ha:∀v∈args,∀ρ:Perm,v.pm ρ=v){v:Value}(hv:∀ρ:Perm,v.pm ρ=v){cf:Frame}{rest:List Frame}
 (hc:∀w,Calls prog f args.toArray w fun e w'=>e=.returned v/\w'=w)
 (hk:∀O' wa',Mq c P0 G0 J L O' wa'->Go.Pm.Way prog true K A X Stop O' (G (cf.finish v) rest) wa') :
 Go.Pm.Way prog true K A X Stop O (G (Frame.enter prog f args.toArray .normal) (cf::rest)) wa:=by
 obtain⟨π,w,pp,gb,FG,G,cr,h1,h2,rfl,rfl,h5,h6,h7,h8,h9⟩:=h;refine fE hK h1 h2 hF hlf (args:=args.toArray) (fun v hv=>eM (ha v (by simpa using hv))) (by rw[Fj,iL fun v hv=>ha v hv π]) (R:=fun e w'=>e=.returned v/\w'.heap=w.heap) (fun τ _=>(hc (w.tp τ)).mono fun e w' h=>⟨h.1,by rw[h.2];rfl⟩) (fun e w' h=>⟨v,h.1⟩) fun v' w' π' wa' O' hR hg hL hsz hsame _=>?_;obtain⟨e,hh⟩:=hR;injection e with e;subst e;rw[hv];have hgb:=h8.f;exact hk O' wa' ⟨π',w',pp,gb,FG,G,cr,hg,hL,hsame pp (af.f h6),hsame gb hgb.2,h5,(by show w'.heap[pp]?=_;rw[hh];exact h6),h7,h8.d hh,h9⟩
def Mq.i(h:Mq c P0 G0 J L O wa)(ob:Obj):Mq c P0 G0 J ((wa.heap.size,ob)::L) (fun b=>O b\/b=wa.heap.size) (wa.alloc ob):=by
 obtain⟨π,w,pp,gb,FG,G,cr,h1,h2,h3⟩:=h;have hold:∀b,b<wa.heap.size->(wa.alloc ob).heap[b]?=wa.heap[b]?:=fun b hb=>Below.heap_alloc _ _ _ hb;have hlt:∀r,r<w.heap.size->π.f r<wa.heap.size:=fun r hr=>h1.a.i.k hr;have h10:7<=wa.heap.size:=h1.a.a;refine⟨π,w,pp,gb,FG,G,cr,⟨⟨fun r o hl hr=>?_,h1.a.d,h1.a.c,by have:=h1.a.a;simp at this ⊢;omega,h1.a.os,h1.a.g,h1.a.b⟩,h1.d,h1.f,bR h1.e fun x hx=>hold x ω,fun r h8 hr=>.inl (h1.c r h8 hr)⟩,fun x hx=>?_,h3⟩
 ·rw[hold _ (hlt r (yk.1 hr).1)];exact h1.a.e r o hl hr
 ·rcases yF.1 hx with rfl|hx
  ·exact⟨.inr rfl,heap_alloc_new wa ob,fun r _ hr e=>by have:=hlt r hr;simp only at e;omega⟩
  ·obtain⟨z1,z2,z3⟩:=h2 x hx;exact⟨.inl z1,(hold _ (yk.1 z2).1).trans z2,z3⟩
def Mq.side(h:Mq c P0 G0 J L O wa){bx:Nat}{cs:Array Value}{ty:TypeId}(hx:(bx,Obj.cells cs ty (0,0))∈L):O bx/\∀(j:Nat) (u:Value),cs[j]?=some u->wa.cell? (aT bx j)=some u:=by
 obtain⟨π,w,pp,gb,FG,G,cr,h1,h2,h3⟩:=h;obtain⟨z1,z2, -⟩:=h2 _ hx;exact⟨z1,fun j u hu=>af.a (T:=ty) (cs:=cs) z2 j u hu⟩
def Mq.d(h:Mq c P0 G0 J L O wa){L':List (Nat × Obj)}(hL:∀x∈L',x∈L):Mq c P0 G0 J L' O wa:=by
 obtain⟨π,w,pp,gb,FG,G,cr,h1,h2,h3⟩:=h;exact⟨π,w,pp,gb,FG,G,cr,h1,fun x hx=>h2 x (hL x hx),h3⟩
end
end
section
open Go.RowKit

def j7(c:Int):Prop:=-9223372036854775808<=c/\c<=9223372036854775807
def jXa{w:World}{X:Nat}{T:TypeId}{f g i:Value}(h:af w X T #[f,g,i])(a c b:Value) :
 af (((w.setCell ⟨X,0,none⟩ a).setCell ⟨X,1,none⟩ c).setCell ⟨X,2,none⟩ b) X T #[a,c,b]/\ej X w (((w.setCell ⟨X,0,none⟩ a).setCell ⟨X,1,none⟩ c).setCell ⟨X,2,none⟩ b):=by
 have j:=h.e 0 a;have e:=j.e 1 c;have d:=e.e 2 b;exact⟨d,(((ej.d X w).a 0 a).a 1 c).a 2 b⟩
def BP(a b c:Int)(w:World)(L:j7 a)(M:j7 b)(I:j7 c):Calls prog 14 #[.agg #[J a,J b,J c]] w fun e g=>e=.returned (.agg #[J ((1+bw a 6:Nat):Int),J ((1+bw b 8:Nat):Int),J ((1+bw c 4000:Nat):Int)])/\Below w w g:=by
 have H:=ah (fun g=>fO a 6 g L ω ω);have C:=ah (fun g=>fO b 8 g M ω ω);have D:=ah (fun g=>fO c 4000 g I ω ω);have z:=cM a (n:=6) ω;have A:=cM b (n:=8) ω;have y:=cM c (n:=4000) ω;generalize bw a 6=p at H z ⊢;generalize bw b 8=q at C A ⊢;generalize bw c 4000=r at D y ⊢;have P:IntKind.i64.wrap (1+(p:Int))=((1+p:Nat):Int):=by simp[IntKind.wrap,IntKind.bits,IntKind.signed];omega
 have Q:IntKind.i64.wrap (1+(q:Int))=((1+q:Nat):Int):=by simp[IntKind.wrap,IntKind.bits,IntKind.signed];omega
 have T:IntKind.i64.wrap (1+(r:Int))=((1+r:Nat):Int):=by simp[IntKind.wrap,IntKind.bits,IntKind.signed];omega
 have E:=(af.d w _ rfl 23 #[J a,J b,J c]).g (.cells #[J 0,J 0,J 0] 23);have F:=af.d (w.alloc (.cells #[J a,J b,J c] 23)) (w.heap.size+1) ς 23 #[J 0,J 0,J 0];have x:Hid (Below w w ((w.alloc (.cells #[J a,J b,J c] 23)).alloc (.cells #[J 0,J 0,J 0] 23))):=((yi _ _).alloc (yb _) _).alloc ς _;have B:Hid (∀m,(((w.alloc (.cells #[J a,J b,J c] 23)).alloc (.cells #[J 0,J 0,J 0] 23)).drewN m).cell? (aT w 0)=some (J a)/\(((w.alloc (.cells #[J a,J b,J c] 23)).alloc (.cells #[J 0,J 0,J 0] 23)).drewN m).cell? (aT w 1)=some (J b)/\(((w.alloc (.cells #[J a,J b,J c] 23)).alloc (.cells #[J 0,J 0,J 0] 23)).drewN m).cell? (aT w 2)=some (J c)):=fun m=>by
  have h:=E.c (below_drewN (yi (w.heap.size+2) _) m) ω;exact⟨h.a 0 _ rfl,h.a 1 _ rfl,h.a 2 _ rfl⟩
 have G:=ah F;clear E F L M I;go_enter Tryz.func14,Tryz.ntmps14
 go_upto_region 1 with fail
 generalize ((w.alloc _).alloc _)=V at B G x ⊢;have j:=ah (B.out 1);refine gl.b (fun g=>g.cell? (aT w 0)=some (J a)/\g.cell? (aT w 1)=some (J b)/\g.cell? (aT w 2)=some (J c)) 13 rfl j.out (fun f=>?_)
 (iterate 2 refine χ ?_);refine tk 4 ?_;refine tk 5 ?_;refine tk 8 ?_;refine tk 9 ?_
 refine te 2 fun K i=>?_;go_simp;refine(H.out _).mono ?_;rintro _ N ⟨rfl,rfl⟩;go_wp2_with fail
 refine i.out _ _ (fun _=>j.out) (fun f=>?_);clear i K;try simp only[pU]
 refine tk 3 ?_;refine te 6 fun K i=>?_;go_simp;refine(C.out _).mono ?_;rintro _ N ⟨rfl,rfl⟩;go_wp2_with fail
 refine i.out _ _ (fun _=>j.out) (fun f=>?_);clear i K;try simp only[pU]
 refine tk 7 ?_;refine te 10 fun K i=>?_;go_simp;refine(D.out _).mono ?_;rintro _ N ⟨rfl,rfl⟩;go_wp2_with fail
 refine i.out _ _ (fun _=>j.out) (fun f=>?_);clear i K;try simp only[pU]
 (iterate 2 refine χ ?_)
 have d:=G.out;have t:=d.a 0 _ rfl;have u:=d.a 1 _ rfl;have v:=d.a 2 _ rfl;have O:=d.b 0;have R:=d.b 1;have S:=d.b 2;simp only[yf,yd,ye] at t u v;refine te 13 fun K i=>?_;go_simp;refine i.out _ _ (fun h=>absurd rfl h) (fun _=>?_);clear i K t u v O R S;try simp only[pU]
 refine gl.done κ ?_ _;go_wp2_with fail
 obtain⟨n,l⟩:=jXa d (J (1+(p:Int))) (J (1+(q:Int))) (J (1+(r:Int)));have k:=n.i;have s:=(x.out.trans (l.c (Nat.le_succ _))).drew;refine DU (p:=bodyPost _ _ _ _ _) _ (fun U o=>?_);rw[<-o.out] at k s;clear o n l;have t:=k.a 0 _ rfl;have u:=k.a 1 _ rfl;have v:=k.a 2 _ rfl;simp only[yf,yd,ye] at t u v;exact bodyPost_ret (v:=.agg #[J (1+(p:Int)),J (1+(q:Int)),J (1+(r:Int))]) (by simp[results,Tryz.results14,go_sem,t,u,v]) rfl ⟨ς,s⟩
end
section
open Go.RowKit
open Go.Cr Go.Conc
open Go.Pm (Rely Perm Sup Ext Ev)
open Md (PS Grp Wf GW Book)
variable {rest:List Frame}{c cf:Frame}{a:Nat}{ua:Value}
abbrev Jt:=(Nat->List Ev)->Prop
def xj(n:Nat)(J:Jt)(V:Value)(us:List Value)(L:List (Nat × Obj))(O:Nat->Prop)(wa:World):Prop:=
 ∃(π:Perm) (w:World) (base:Nat) (ls:Nat->List Ev) (v:Value) (vs:List Value),Gh π w wa O/\lK L O π w.heap.size wa/\7<=base/\vs.length=n/\jN w base ls v vs/\v.pm π=V/\vs.map (Value.pm π)=us/\J ls
inductive Io
 |flat (u:Value)
 |all
 |one (a:Nat)
def Io.b(v:Value)(vs:List Value):Io->Value
 |.flat u=>u
 |.all=>v
 |.one a=>vs.getD a (.bool false)
def Io.ok:Io->Prop
 |.flat u=>∀ρ:Perm,u.pm ρ=u
 |_=>True
section
variable {n:Nat}{J:Jt}{V:Value}{us:List Value}{L:List (Nat × Obj)}{O K:Nat->Prop}{A:World->Prop}{X:Event->Prop}{Stop:(Nat->Prop)->Goroutine->World->Prop}{wa waB:World}
def xj.rely(h:xj n J V us L O wa)(i:∀b,b<2->K b)(e:Rely O K A wa waB):xj n J V us L O waB:=by
 obtain⟨l,w,d,g,v,m,k,j,f⟩:=h;exact⟨l,w,d,g,v,m,k.rely i e,j.rely e,f⟩
def xj.f(h:xj n J V us L O wa):∀x∈L,wa.heap[x.1]?=some x.2:=by
 obtain⟨i,w,b,j,v,k,g,e,f⟩:=h;exact fun x d=>(e x d).2.1
def jN.d{w w':World}{b:Nat}{f:Nat->List Ev}{v:Value}{j:List Value}(t:jN w b f v j)(h:∀k,k<w.heap.size->w'.heap[k]?=w.heap[k]?):jN w' b f v j:=
 ⟨aj t.b fun g d=>h g (t.b.lt g d).2,fun i u e=>aj (t.a i u e) fun g d=>h g ((t.a i u e).lt g d).2⟩
def xj.e(h:xj n J V us L O wa)(C:1<=n):us.length=n/\∃m b,V=sT m n b/\O m/\∀k u,us[k]?=some u->wa.cell? (aT m k)=some u:=by
 obtain⟨x,w,o,B,v,D,p,F,E,q,i,rfl,rfl, -⟩:=h;refine⟨by rw[yL];exact q,?_⟩;rcases i.b.2 with ⟨-,l⟩|⟨g,b,y,l,t, -⟩
 ·omega
 ·have d:v.ownBlock=some g:=by rw[l];rfl
  have e:=i.b.lt g d;refine⟨x.f g,b,by rw[l,q];simp[Addr.pm],p.c g (show 7<=g by omega) e.2,fun k u r=>?_⟩;rw[yZ] at r;obtain⟨z,j,rfl⟩:=yE.1 r;have s:=i.b.cells d k z j;rw[lu] at s;exact(p.b ω s).1
def xj.at{d b:Nat}(h:xj n J (sT d n b) us L O wa)(m:1<=n):us.length=n/\O d/\∀k u,us[k]?=some u->wa.cell? (aT d k)=some u:=by
 obtain⟨l,j,f,e,i,g⟩:=h.e m;simp only[Value.slice.injEq,yA,Addr.mk.injEq] at e;obtain⟨⟨rfl, -⟩, -⟩:=e;exact⟨l,i,g⟩
def xj.d(h:xj n J V us L O wa)(hK:∀b,b<2->K b){f:FuncId}(hF:fam f=true)(Y:fam.leaf f=false)(args:List Io)(Z:∀x∈args,x.ok){r:Value}(hr:∀ρ:Perm,r.pm ρ=r)
 (hc:∀w d z v j,7<=d->jN w d z v j->j.length=n->J z->Calls prog f (args.map (Io.b v j)).toArray w fun e s=>e=.returned r/\Below w w s)
 (R:∀H o,xj n J V us L H o->Go.Pm.Way prog true K A X Stop H (G (c.finish r) rest) o) :
 Go.Pm.Way prog true K A X Stop O (G (Frame.enter prog f (args.map (Io.b V us)).toArray .normal) (c::rest)) wa:=by
 obtain⟨U,w,d,z,v,j,h1,h2,h3,hl,y,rfl,rfl,hJ⟩:=h;have C:∀{u:Value}{m E:Nat}{D:TypeId}{B:List Value},w.ownsRow d D E u m B->Sup fam _ u:=fun {u m E D B} r σ M=>by
  rcases r.2 with ⟨l, -⟩|⟨g,S,W,l, -⟩
  ·rw[l];simp
  ·have p:=r.lt g (by rw[l];rfl);have:=M.1 g (show 7<=g by omega) p.2;rw[l];simp[Addr.pm,this]
 refine fE hK h1 h2 hF Y (args:=(args.map (Io.b v j)).toArray) (fun u I=>?_) ?_ (R:=fun e s=>e=.returned r/\(∀k,k<w.heap.size->s.heap[k]?=w.heap[k]?)) (fun τ _=>?_) (fun e s h=>⟨_,h.1⟩) fun v' s F o H hR hg hL _ t _=>?_
 ·rw[Cy] at I;obtain⟨x,P,rfl⟩:=yW.1 I;have q:=Z x P;cases x with
  |flat u=>exact eM q
  |all=>exact C y.b
  | one a =>
    show Sup fam _ (j.getD a _);rw[yj];cases hv:j[a]? with
    |none=>exact eM ς
    |some u=>exact C (y.a a u hv)
 ·rw[Fj,AD];congr 1;refine GU fun x P=>?_;have q:=Z x P;cases x with
  |flat u=>exact q U
  |all=>rfl
  | one a =>
    show (j.getD a _).pm U=(j.map _).getD a _;rw[yj,yj,yZ];cases j[a]? <;> simp
 ·refine(hc _ d z v j h3 (y.d (w':=w.tp τ) fun _ _=>rfl) hl hJ).mono ?_;rintro e s ⟨rfl,N⟩;exact⟨rfl,fun k R=>N.block k R⟩
 ·obtain⟨e,T⟩:=hR;injection e with e;subst e;rw[hr];have i:∀{u:Value}{m E:Nat}{D:TypeId}{B:List Value},w.ownsRow d D E u m B->u.pm F=u.pm U:=fun {u m E D B} r=>by
   rcases r.2 with ⟨l, -⟩|⟨g,S,W,l, -⟩
   ·rw[l];simp
   ·have p:=r.lt g (by rw[l];rfl);rw[l];simp[Addr.pm,t g p.2]
  refine R H o ⟨F,s,d,z,v,j,hg,hL,h3,hl,y.d T,i y.b,GU fun u I=>?_,hJ⟩;obtain⟨k,Q⟩:=Kp.1 I;exact i (y.a k u Q)
end
def JC(n:Nat):Jt:=fun ls=>∀q,q<n->(ls q).length<=300000000000/\xR q (ls q)/\xC n ls (ls q)
section
variable {n:Nat}{V:Value}{us:List Value}{L:List (Nat × Obj)}{O K:Nat->Prop}{A:World->Prop}{X:Event->Prop}{Stop:(Nat->Prop)->Goroutine->World->Prop}{wa waB:World}
def xj.g(h:xj n (JC n) V us L O wa)(p:∀b,b<2->K b)(i:a<n)(f:us[a]?=some ua)
 (s:∀l d,xj n (JC n) V us L l d->Go.Pm.Way prog true K A X Stop l (G (c.finish (.bool true)) rest) d) :
 Go.Pm.Way prog true K A X Stop O (G (Frame.enter prog 16 #[.int .i64 a,ua] .normal) (c::rest)) wa:=by
 have:=xj.d h p (f:=16) rfl rfl [.flat (.int .i64 a),.one a] (by simp[Io.ok]) ς (fun w j o v x y q z k=>?_) s
 ·rw[show ([Io.flat _,.one a].map _).toArray=#[.int .i64 a,ua] by simp[Io.b,f]] at this;exact this
 ·obtain⟨u,g⟩:∃u,x[a]?=some u:=⟨_,yh ω⟩;rw[show ([Io.flat _,.one a].map _).toArray=#[.int .i64 a,u] by simp[Io.b,g]];have r:=q.a a u g;obtain⟨t,m,e⟩:=bG r;subst e;exact Gw t m (o a) a w r (k a i).1 (k a i).2.1
def xj.b(h:xj n (JC n) V us L O wa)(U:∀b,b<2->K b)(H:a<n)(t:us[a]?=some ua)
 (P:∀I i,xj n (JC n) V us L I i->Go.Pm.Way prog true K A X Stop I (G (c.finish (.bool true)) rest) i) :
 Go.Pm.Way prog true K A X Stop O (G (Frame.enter prog 17 #[ua,V] .normal) (c::rest)) wa:=by
 have:=xj.d h U (f:=17) rfl rfl [.one a,.all] (by simp[Io.ok]) ς (fun w j D v y Z f Q C=>?_) P
 ·rw[show ([Io.one a,.all].map _).toArray=#[ua,V] by simp[Io.b,t]] at this;exact this
 ·obtain⟨u,E⟩:∃u,y[a]?=some u:=⟨_,yh ω⟩;rw[show ([Io.one a,.all].map _).toArray=#[u,v] by simp[Io.b,E]];have r:=f.a a u E;obtain⟨R,S,q⟩:=bG r;subst q;rcases f.b.2 with ⟨-,B⟩|⟨g,z,Y,B,N, -⟩
  ·omega
  ·have l:v.ownBlock=some g:=by rw[B];rfl
   have p:=f.b.lt g l;have d:∀s,∃x:Option Addr × Nat,s<n->y[s]?=some (.slice x.1 _ x.2):=fun s=>by
    by_cases m:s<n
    ·obtain⟨T,k⟩:∃u,y[s]?=some u:=⟨_,yh ω⟩;obtain⟨W,M,e⟩:=bG (f.a s T k);exact⟨(W,M),fun _=>by rw[k,e]⟩
    ·exact⟨(none,0),fun h=>(m h).elim⟩
   have o:=fun s=>Classical.choose_spec (d s);rw[B,Q];refine BK (base':=j) R S (D a) g z D (fun s=>(Classical.choose (d s)).1) (fun s=>(Classical.choose (d s)).2) w r (C a H).1 p.2 (fun s m=>?_) (C a H).2.2;have F:=f.b.cells l s _ (o s m);rw[lu] at F;exact⟨F,f.a s _ (o s m),(C s m).1⟩
end
section
variable {c5:gN}{P0 G0:Nat}{J:zV}{L:List (Nat × Obj)}{O K:Nat->Prop}{A:World->Prop}{X:Event->Prop}{Stop:(Nat->Prop)->Goroutine->World->Prop}{wa waB:World}
def Mq.l(h:Mq c5 P0 G0 J L O wa)(Q:∀G f,J G f->GW G/\G.n=c5.n)(B:c5.n<=6)(N:∀b,b<2->K b)
 (F:∀V I l d,xj c5.n (fun z=>∃G f,J G f/\z=fun i=>(G.b i).j) V I L l d->Go.Pm.Way prog true K A X Stop l (Go.Conc.G (c.finish (.tuple #[V,.bool true])) rest) d) :
 Go.Pm.Way prog true K A X Stop O (Go.Conc.G (Frame.enter prog 15 #[pT P0 0] .normal) (c::rest)) wa:=by
 obtain⟨Y,w,t,U,Z,G,f,k,q,rfl,T,S,s,W,E,r⟩:=h;have p:=af.f s;obtain⟨y,m⟩:=Q G f r;refine fE N k q rfl rfl (args:=#[pT t 0]) (fun u x=>?_) (by simp[Addr.pm]) (R:=fun e j=>∃v,e=.returned (.tuple #[v,.bool true])/\∃g:List Value,g.length=c5.n/\jN j w.heap.size (fun i=>(G.b i).j) v g) (fun D _=>?_) (fun e j h=>?_) fun v j o d l R M P _ _ _=>?_
 ·simp only[Cy,yF,yU,or_false] at x;subst x;exact jY S p
 ·refine(GI (w:=w.tp D) t s (E.d rfl) y m B).mono ?_;rintro e j ⟨-,v,rfl,g,k,q⟩;exact⟨v,rfl,g,k,q⟩
 ·obtain⟨v,h, -⟩:=h;exact⟨_,h⟩
 ·obtain⟨u,e,g,H,C⟩:=R;injection e with e;subst e;have:=F _ _ l d ⟨o,j,_,_,u,g,M,P,k.a.c,H,C,rfl,rfl,G,f,r,rfl⟩;simpa using this
def M0(L:List (Nat × Obj))(O:Nat->Prop)(wa:World):Prop:=∃(π:Perm) (w:World),Gh π w wa O/\lK L O π w.heap.size wa
def M0.rely(h:M0 L O wa)(i:∀b,b<2->K b)(d:Rely O K A wa waB):M0 L O waB:=by
 obtain⟨g,w,f,e⟩:=h;exact⟨g,w,f.rely i d,e.rely d⟩
def M0.g(h:Tabs wa)(e:7<=wa.heap.size)(i:∀x∈L,O x.1/\wa.heap[x.1]?=some x.2):M0 L O wa:=by
 have c:Cl wa (fun _=>False):=⟨h,e,fun x d=>d.elim⟩;obtain⟨w,l,m,k,j, -,b, -⟩:=c.e;exact⟨l,w,⟨m,k,j,h,fun r g f=>(b r g f).elim⟩,fun x d=>⟨(i x d).1,(i x d).2,fun r g f=>(b r g f).elim⟩⟩
def M0.f(h:M0 L O wa)(m:Obj):M0 ((wa.heap.size,m)::L) (fun b=>O b\/b=wa.heap.size) (wa.alloc m):=by
 obtain⟨p,w,d,v⟩:=h;have i:∀b,b<wa.heap.size->(wa.alloc m).heap[b]?=wa.heap[b]?:=fun b y=>Below.heap_alloc _ _ _ y;have k:∀r,r<w.heap.size->p.f r<wa.heap.size:=fun r j=>d.a.i.k j;have t:7<=wa.heap.size:=d.a.a;refine⟨p,w,⟨⟨fun r o z j=>?_,d.a.d,d.a.c,by have:=d.a.a;simp at this ⊢;omega,d.a.os,d.a.g,d.a.b⟩,d.d,d.f,bR d.e fun x l=>i x ω,fun r u j=>.inl (d.c r u j)⟩,fun x l=>?_⟩
 ·rw[i _ (k r (yk.1 j).1)];exact d.a.e r o z j
 ·rcases yF.1 l with rfl|l
  ·exact⟨.inr rfl,heap_alloc_new wa m,fun r _ j e=>by have:=k r j;simp only at e;omega⟩
  ·obtain⟨s,n,q⟩:=v x l;exact⟨.inl s,(i _ (yk.1 n).1).trans n,q⟩
def M0.side(h:M0 L O wa){b:Nat}{d:Array Value}{f:TypeId}(e:(b,Obj.cells d f (0,0))∈L):O b/\∀(j:Nat) (u:Value),d[j]?=some u->wa.cell? (aT b j)=some u:=by
 obtain⟨n,w,m,k⟩:=h;obtain⟨i,l, -⟩:=k _ e;exact⟨i,fun j u g=>af.a l j u g⟩
def M0.e(h:M0 L O wa){L':List (Nat × Obj)}(d:∀x∈L',x∈L):M0 L' O wa:=by
 obtain⟨g,w,f,e⟩:=h;exact⟨g,w,f,fun x b=>e x (d x b)⟩
def M0.d(h:M0 L O wa)(p:∀b,b<2->K b)(a b c:Int)(o:j7 a)(t:j7 b)(m:j7 c)
 (l:∀f d,M0 L f d->Go.Pm.Way prog true K A X Stop f (G (cf.finish (.agg #[.int .i64 ((1+bw a 6:Nat):Int),.int .i64 ((1+bw b 8:Nat):Int),.int .i64 ((1+bw c 4000:Nat):Int)])) rest) d) :
 Go.Pm.Way prog true K A X Stop O (G (Frame.enter prog 14 #[.agg #[.int .i64 a,.int .i64 b,.int .i64 c]] .normal) (cf::rest)) wa:=by
 obtain⟨y,w,k,r⟩:=h;refine fE p k r rfl rfl (fun u j=>?_) ς (fun x _=>(BP a b c _ o t m).mono fun e g h=>h.1) (fun e g h=>⟨_,h⟩) fun v g i d f s n q _ _ _=>?_
 ·simp only[Cy,yF,yU,or_false] at j;subst j;exact eM ς
 ·injection s with e;subst e;simpa using l f d ⟨i,g,n,q⟩
def M0.b(h:M0 L O wa)(F:∀b,b<2->K b)(t:1<=c5.n/\c5.n<=6)(s:1<=c5.d/\c5.d<=8)(C:1<=c5.b/\c5.b<=4000)
 (B:∀r N k d,Mq c5 r N (fun G z=>Md.dY c5.a c5.n c5.d c5.b G z) L k d->Go.Pm.Way prog true K A X Stop k (G (cf.finish (pT r 0)) rest) d) :
 Go.Pm.Way prog true K A X Stop O (G (Frame.enter prog 25 #[.agg #[.int .i64 c5.n,.int .i64 c5.d,.int .i64 c5.b],.bool c5.a] .normal) (cf::rest)) wa:=by
 obtain⟨P,w,j,M⟩:=h;refine fE F j M rfl rfl (fun u q=>?_) ς (R:=fun e i=>∃f g,e=.returned (pT f 0)/\CC i f g c5.n c5.d c5.b (fun _=>false) c5.a/\w.heap.size<=f/\GY i (fun x=>w.heap.size<=x/\x<f) g (BZ c5.n c5.d c5.b)) (fun y _=>(EX (w.tp y) c5.a j.f j.a.c t s C).mono ?_) (fun e i h=>?_) fun v i l d k I D H _ _ _=>?_
 ·simp only[Cy,yF,yU,or_false] at q;rcases q with rfl|rfl <;> exact eM ς
 ·rintro e i ⟨f,g,rfl, -,m,p,o⟩;exact⟨f,g,rfl,m,p,o⟩
 ·obtain⟨f,g,h, -⟩:=h;exact⟨_,h⟩
 ·obtain⟨f,g,e,m,p,o⟩:=I;injection e with e;subst e;have:=B _ _ k d ⟨l,i,f,g,_,_,_,D,H,rfl,rfl,by have E:7<=w.heap.size:=j.a.c;omega,m,fun h=>ω,o,.start⟩;simpa[Addr.pm] using this
end
end
section
open Go.RowKit
open Go.Cr Go.Conc
open Go.Pm (Perm Loose Among Sup Ext SupO obj_comp pm_comp loose_live)
open Md (PS Wf)
def Loose.KL{d c:Perm}{j w i:World}(h:Loose fam d w i)(a:Loose fam c j w):Loose fam (d.Mg c) j i:=by
 refine⟨fun r o l e=>?_,fun r e=>?_,a.c,h.a,h.os.trans a.os,fun f=>?_,?_⟩
 ·have m:=a.e r o l e;have k:=h.e _ _ (loose_live a l) m;rw[obj_comp] at k;exact k
 ·show d.f _=r;rw[a.d r e,h.d r e]
 ·show d.g _=f;rw[a.g,h.g]
 ·show (d.b != c.b)=false;rw[h.b,a.b];rfl
def Loose.Hi{c:Perm}{w d a:World}(h:Loose fam c w d)(l:∀r,7<=r->r<w.heap.size->a.heap[c.f r]?=d.heap[c.f r]?)(e:d.heap.size<=a)(i:a.os=d.os):Loose fam c w a:=
 ⟨fun r o k j=>(l r k (yk.1 j).1).trans (h.e r o k j),h.d,h.c,yr h.a e,i.trans h.os,h.g,h.b⟩
def Cl.h{w:World}{F:Nat->Prop}(c:Cl w F){g:Nat}{a:Array Value}{e:TypeId}{h:Nat × Nat}(d:7<=g)(l:w.heap[g]?=some (.cells a e h))(i:∀u∈a.toList,∀p:Perm,u.pm p=u):Cl w (fun x=>F x\/x=g):=by
 refine⟨c.g,c.f,fun x b=>?_⟩;rcases b with b|rfl
 ·obtain⟨n,o,q,k⟩:=c.d x b;exact⟨n,o,q,k.a fun r _ f=>.inl f⟩
 ·refine⟨d,_,l,fun m _=>?_⟩;simp only[Obj.pm,Obj.cells.injEq,and_true];have:=iL (fun u j=>i u j m);exact Array.ext' (by simpa using this)
def KU(b0:Nat)(S:PS)(D:Nat->Prop):bE:=fun O wa=>
 ∃(ρ:Perm) (W:World) (b:Nat) (F:Nat->Prop),Loose fam ρ W wa/\Go.Pm.Shut fam W/\Among fam ρ W.heap.size O/\(∀x,D x->∃r,7<=r/\r<W.heap.size/\ρ.f r=x)/\ρ.f b=b0/\(∀x,F x->7<=x/\x<W.heap.size)/\PZ W F b S
def KU.a{g:Nat}{S:PS}{D K:Nat->Prop}(O:Nat->Prop)(w a:World)(m:∀b,O b\/K b->a.heap[b]?=w.heap[b]?)(d:w.heap.size<=a)(e:a.eo=w.eo)(h:KU g S D O w):KU g S D O a:=by
 obtain⟨n,W,b,F,l,k,f,j⟩:=h;exact⟨n,W,b,F,Loose.Hi l (fun r c i=>m _ (.inl (f r c i))) d (congrArg Prod.fst e),k,f,j⟩
section
variable {b base:Nat}{π:Perm}{w wa wL:World}{F:Nat->Prop}{S:PS}{v:Value}{l:List (List UInt8)}{R:Nat->Prop}{A:World->Prop}
def Fq(F:Nat->Prop)(v:Value):Nat->Prop:=fun r=>F r\/v.ownBlock=some r
def KG(cur:Array Value):Prop:=∀u∈cur.toList,∃s,u=Value.string s
def Fq.a(c:Cl w F){m:Nat}{B:List Value}(j:w.ownsRow base 9 1 v m B)(f:7<=base)(i:∀g a e q,v.ownBlock=some g->w.heap[g]?=some (.cells a e q)->KG a):Cl w (Fq F v):=by
 cases d:v.ownBlock with
 | none =>
   have e:Fq F v=F:=by
    funext r;apply propext;unfold Fq;rw[d];exact⟨fun h=>h.elim id (fun h=>nomatch h),Or.inl⟩
   rw[e];exact c
 | some g =>
   have e:Fq F v=fun x=>F x\/x=g:=by
    funext r;apply propext;unfold Fq;rw[d];exact⟨fun h=>h.imp id fun h=>by injection h with h;exact h.symm,fun h=>h.imp id fun h=>by rw[h]⟩
   rw[e];rcases j.2 with ⟨k, -⟩|⟨p,t,a,k,n,o, -⟩
   ·rw[k] at d;cases d
   ·have z:p=g:=by
     rw[k] at d;simpa[Value.ownBlock] using d
    subst z;refine c.h (yr f n) o fun u y C=>?_;obtain⟨s,rfl⟩:=i p a _ _ d o u y;simp
def GN(a4:Loose fam π w wa)(p:PZ w F b S)(c:Cl w F)(wf:Wf S)(hs:S.e=[])(a5:l.length<=40000)(a8:∀s∈l,s.length<=140737488351232)
 (m:w.ownsRow base 9 1 v l.length (l.map fun s=>Value.string ⟨s.toArray⟩)) (E:7<=base) (z:∀g L e fz,v.ownBlock=some g->w.heap[g]?=some (.cells L e fz)->KG L) (Q:∀g,v.ownBlock=some g->¬F g)
 (hR:∀b,b<2->R b) (b3:Tabs wL) (H:∀r,Fq F v r->wL.heap[π.f r]?=wa.heap[π.f r]?) (b0:wa.heap.size<=wL) (a2:wL.eo=wa.eo) :
 ov prog false R A oK 101 #[.pointer (some ⟨π.f b,0,none⟩),v.pm π] (fun x=>∃r,Fq F v r/\π.f r=x) wL fun _=>KU (π.f b) (S.Nc l) (fun x=>∃r,Fq F v r/\π.f r=x):=by
 have cw:=Fq.a c m E z;obtain⟨j,a,hL,hS,hT, -,U,d,Y, -⟩:=cw.e;have a1:=Loose.Hi (Loose.KL a4 hL) (fun r I B=>H _ (U r I B)) b0 (congrArg Prod.fst a2);obtain⟨o0,p0⟩:=p.c (fun r o B ho=>Y r o (.inl B) ho);have y:=d b (.inl p.d);have Z:=fun x k=>by
  have n:=d _ (show Fq F v (a.f x) from k);rwa [a.a] at n
 have t:∀x,tf a.MS F x->tf a.MS (Fq F v) x:=fun x k=>.inl k;have p1:=(p0.c t).h;have a7:∀x,o0.M (a.i b) x->tf a.MS F x:=fun x k=>by
  rcases p0.h.mf k with h|h
  ·exact h
  ·have:=p0.h.h k;omega
 have K:eB j (o0.R (aY (tf a.MS (Fq F v)) j) (a.i b)) 9 1 (v.pm a.MS) l.length (l.map fun s=>Value.string ⟨s.toArray⟩):=by
  have r0:eB w (Fq F v) 9 1 v l.length (l.map fun s=>Value.string ⟨s.toArray⟩):=⟨(wG (fun _ _=>trivial) m).d,fun g q=>.inr q⟩;have r1:=eB.j Y (fun x k=>by
   obtain⟨s, -,rfl⟩:=yW.1 k;simp) r0
  refine⟨r1.d,fun g q=>⟨.inl (r1.c g q),fun hM=>?_⟩⟩;have n:v.ownBlock=some (a.f g):=by
   rw[qe] at q;obtain⟨g0,O,e⟩:=yE.1 q;have:a.i g0=g:=e;rw[<-this,a.c];exact O
  exact Q _ n (a7 g hM)
 have C:¬aY (tf a.MS (Fq F v)) j 1:=fun e=>by
  rcases e with e|e
  ·have:=(Z 1 e).1;omega
  ·have:=hL.c;omega
 intro b4 cf b5 G;have D:(#[Value.pointer (some ⟨a.i b,0,none⟩),v.pm a.MS].map (Value.pm (π.Mg a)))=#[.pointer (some ⟨π.f b,0,none⟩),v.pm π]:=by
  have e1:(v.pm a.MS).pm (π.Mg a)=v.pm π:=by
   rw[<-pm_comp π a,pm_comp a a.MS,Go.Pm.rr _ (Perm.M7 a)]
  have e2:(π.Mg a).f (a.i b)=π.f b:=by
   show π.f _=π.f b;rw[a.c]
  simp[e1,Addr.pm,e2]
 rw[<-D];refine Go.Pm.Dr progOk leafLaw hR a1 hS hT b3 (fun r I B=>⟨a.f r,U r I B,rfl⟩) rfl rfl (fun u hu=>?_) (R:=fun e P=>e=.returned (.tuple #[])/\∃W,PP P (aY (tf a.MS (Fq F v)) j) (a.i b) (S.Nc l) W) (fun N _=>?_) (fun e P h=>⟨_,h.1⟩) fun v' P b1 a6 O' a3 hl a9 _ _ b2 V a0 _=>?_
 ·intro σ T;simp only[Cy,yF,yU,or_false] at hu;rcases hu with rfl|rfl
  ·have:=T.1 _ y.1 y.2;simp[Addr.pm,this]
  ·rcases m.2 with ⟨O, -⟩|⟨g,b6,L,O, -⟩
   ·rw[O];simp
   ·have q:=d g (.inr (by rw[O];rfl));have:=T.1 _ q.1 q.2;rw[O];simp[Addr.pm,Perm.MS,this]
 ·have hk:∀x:Nat,(j.tp N).heap[x]?=j.heap[x]?:=fun _=>rfl;have p2:PP (j.tp N) (aY (tf a.MS (Fq F v)) j) (a.i b) S o0:=((p0.c t).g (w':=j.tp N) (fun x _ _=>hk x) (yb _)).h;have r2:eB (j.tp N) (o0.R (aY (tf a.MS (Fq F v)) j) (a.i b)) 9 1 (v.pm a.MS) l.length (l.map fun s=>Value.string ⟨s.toArray⟩):=K.i fun x _=>hk x;have X:CH (j.tp N):=wY (w:=j.tp N) (bR hT fun x _=>hk x);refine(GM p2 wf X C (by rw[hs];simp) a5 a8 r2).mono ?_;rintro e P ⟨rfl,W,h'⟩;exact⟨rfl,W,h'.c⟩
 ·obtain⟨-,W,hp⟩:=a3;refine G _ O' a6 ⟨b1,P,a.i b,fun x=>aY (tf a.MS (Fq F v)) j x/\x<P,hl,a9,b2,fun x k=>?_,?_,fun x k=>⟨?_,k.2⟩,W,hp.a6⟩
  ·obtain⟨r,B,rfl⟩:=k;have n:=d r B;refine⟨a.i r,n.1,yg n.2 V,?_⟩;rw[a0 _ n.2];show π.f (a.f (a.i r))=π.f r;rw[a.c]
  ·rw[a0 _ y.2];show π.f (a.f (a.i b))=π.f b;rw[a.c]
  ·rcases k.1 with n|n
   ·exact(Z x n).1
   ·have:7<=j.heap.size:=hL.c;omega
end
end
end Go.Proofs.YtoklolfaemhfnaaGreatDoor
namespace Go.Cr
section
open Go Go.Conc
open Go.Pm (Rely Guar Ev grow)
variable {O O' K K':Nat->Prop}{w:World}
def Rely.dZ{A:World->Prop}{a:World}(d:∀b,O b->O' b)(e:∀b,K b->K' b)(h:Rely O' K' A w a):Rely O K A w a:=⟨fun b c=>h.a b (c.imp (d b) (e b)),h.size,h.f,h.d⟩
def Ev.more(d:∀b,O b->O' b)(i:∀b,K b->K' b){e:Event}(h:Ev O K e):Ev O' K' e:=by
 obtain⟨c,k,j⟩:=e;cases c with
 | cell a =>
   rcases h with h|⟨g,f⟩
   ·exact .inl (d _ h)
   ·exact .inr ⟨i _ g,f⟩
 |obj b=>exact⟨d _ h.1,h.2⟩
 |mark m=>exact h
 |output=>trivial
 |goroutines=>exact h
def rh(c:∀b,O b->O' b)(w a:World):∀b,grow O w a b->grow O' w a b:=fun b h=>h.imp (c b) id
def Guar.more{X:Event->Prop}{a:World}{c:Array Event}(d:∀b,O b->O' b)(k:∀b,K b->K' b)(h:Guar O K X w a c):Guar O' K' X w a c:=
 ⟨fun b f j=>h.a b f fun i=>j (d b i),h.size,h.tape,h.d,fun e g=>(h.c e g).imp (Ev.more (rh d w a) k) id⟩
def aC.more{P:Program}{Y:TypeId}{y:Value->World->Prop}{W:Nat}{X:List bE}{C:nX}{g:Goroutine}(h:aC P Y y W X C O K g w):∀{r s:Nat->Prop},(∀b,O b->r b)->(∀b,K b->s b)->aC P Y y W X C r s g w:=by
 induction h with
 | idle d k _ p =>
   intro r s f j;refine .idle d (fun a c=>?_) fun a o m l c n=>p a o m l (Rely.dZ f j c) n (rh f a m) j;obtain⟨o,m,l,E,G⟩:=k a (Rely.dZ f j c);exact⟨o,m,l,E,Guar.more f j G⟩
 | fin d k =>
   intro r s f j;refine .fin d fun a c=>?_;obtain⟨v,l,E,G,e3⟩:=k a (Rely.dZ f j c);exact⟨v,l,E,fun e n=>Ev.more f j (G e n),e3⟩
 | enter L hW _ p =>
   intro r s f j;exact .enter (f _ L) hW (p (fun b q=>⟨f b q.1,q.2⟩) j)
 | kd d k _ p =>
   intro r s f j;exact .kd d (fun a c=>k a (Rely.dZ f j c)) fun a o m l c n=>p a o m l (Rely.dZ f j c) n f j
 | add d x k _ p =>
   intro r s f j;exact .add d x (fun a c=>k a (Rely.dZ f j c)) fun a o m l v c F u n=>p a o m l v (Rely.dZ f j c) F u n f j
 | en d k _ p =>
   intro r s f j;exact .en d (fun a c=>k a (Rely.dZ f j c)) fun a o m l c n=>p a o m l (Rely.dZ f j c) n f j
 | go Q Bs R d x hB hR N k hc _ p =>
   intro r s f j;exact .go Q Bs R d x (fun b q=>f b (hB b q)) (fun b q=>(hR b q).imp (f b) (j b)) N (fun a c=>k a (Rely.dZ f j c)) (fun a o t m l c n=>hc a o t m l (Rely.dZ f j c) n) fun a o t m l c n=>p a o t m l (Rely.dZ f j c) n (fun b q=>⟨f b q.1,q.2⟩) (fun b q=>q.imp (j b) id)
 | wd d k _ p =>
   intro r s f j;exact .wd d (fun a c=>k a (Rely.dZ f j c)) fun a o m l c n=>p a o m l (Rely.dZ f j c) n f j
 | ld d k _ _ S M =>
   intro r s f j;exact .ld d (fun a c=>k a (Rely.dZ f j c)) (fun a o m l c u n=>S a o m l (Rely.dZ f j c) u n f j) fun a o m l v c h1 h2 u n=>M a o m l v (Rely.dZ f j c) h1 h2 u n f j
 | cas d D z _ _ V T =>
   intro r s f j;exact .cas d (fun a c=>D a (Rely.dZ f j c)) (fun a c=>z a (Rely.dZ f j c)) (fun a o m l c u n=>V a o m l (Rely.dZ f j c) u n f j) fun a o m l v c F u n=>T a o m l v (Rely.dZ f j c) F u n f j
 | sem d A B k _ p =>
   intro r s f j;exact .sem d A (fun a c=>B a (Rely.dZ f j c)) (fun a c=>k a (Rely.dZ f j c)) fun a o m l c u n=>p a o m l (Rely.dZ f j c) u n f j
 | l4 d k _ p =>
   intro r s f j;exact .l4 d (fun a c=>k a (Rely.dZ f j c)) fun a o m l c u n=>p a o m l (Rely.dZ f j c) u n f j
 | ke d k _ p =>
   intro r s f j;exact .ke d (fun a c=>k a (Rely.dZ f j c)) fun a o m l c n=>p a o m l (Rely.dZ f j c) n f j
 | aq d k _ p =>
   intro r s f j;exact .aq d (fun a c=>k a (Rely.dZ f j c)) fun a o m l Os c Z H I n=>p a o m l Os (Rely.dZ f j c) Z (fun i U b q=>⟨fun h=>(H i U b q).1 (f b h),fun h=>(H i U b q).2.1 (j b h),(H i U b q).2.2⟩) I n (fun b q=>q.imp (f b) id) j
