import Derived.Test.YtoklolfaemhfnaaGreatDoorZbg
import Derived.Test.YtoklolfaemhfnaaGreatDoorZbk
set_option maxRecDepth 100000
set_option maxHeartbeats 0
set_option linter.defProp false
open Go.Proofs.Tryz (prog)
namespace Go.Cr
section
open Go Go.Conc Go.RowKit Go.Conc.Lib Go.ConcR.Gen Go.ConcN.Gen Go.Proofs
open Go.ConcN (WgLive)
open Go.ConcR (KK wgBlock WgAt stA smA rd wr mk DC0 WgAt.setSt WgAt.setSm)
open Go.Pm (Rely Guar Ev grow)
variable {wL:World}{i:Nat}
def CZ:Code->Code
 |.seq _ (.seq _ (.seq (.seq _ (.block _ (.loop c))) _))=>c
 |_=>.skip
def xu:Code->Code
 |.seq _ (.seq _ (.seq _ t))=>t
 |_=>.skip
noncomputable def C0:Code:=CZ (Tryz.f60.body.getD .skip)
noncomputable def C8:Code:=xu (Tryz.f60.body.getD .skip)
structure qY (O K:Nat->Prop) (gb pb ab n pcp cp:Nat) (pv:Nat->Nat) (sv:Nat->Value) (Bs:Nat->Nat->Prop) (w:World):Prop where
 o:O gb
 q:O pb
 l:O ab
 e:n<=6
 m:gb≠ab/\pb≠ab
 g:w.cell? (aT gb 0)=some (sT pb n pcp)
 p:∀i,i<n->w.cell? (aT pb i)=some (.pointer (some ⟨pv i,0,none⟩))
 a:∀i,i<n->w.cell? (aT ab i)=some (sv i)
 f:∀i,i<n->∀b,Bs i b->O b/\b≠gb/\b≠pb/\b≠ab
 d:∀i j,i<n->j<n->i≠j->∀b,Bs i b->¬Bs j b
 c:∀b,O b->b<w.heap.size
 h:∀b,K b->b<w.heap.size
 ok:∀b,O b->¬K b
structure At (O K:Nat->Prop) (ab n cp:Nat) (Bs:Nat->Nat->Prop) (w:World) (Wg bx k:Nat) (Ok Kk:Nat->Prop) (wL:World):Prop where
 h:∀b,O b->(∀i,i<k->¬Bs i b)->b≠ab->Ok b
 o:Ok ab\/Kk ab
 s:∀b,K b->Kk b
 q:Ok bx\/Kk bx
 t:¬(Ok Wg\/Kk Wg)
 d:∀b,O b->(∀i,i<k->¬Bs i b)->wL.heap[b]?=w.heap[b]?
 f:∀b,K b->wL.heap[b]?=w.heap[b]?
 l:wL.cell? (aT bx 0)=some (sT ab n cp)
 size:w.heap.size<=wL
 u:wL.eo=w.eo
 e:w.heap.size<=bx/\w.heap.size<=Wg/\bx<wL/\Wg<wL/\bx≠Wg
 m:∀b,Ok b->b<w.heap.size->O b/\∀i,i<k->¬Bs i b
 j:∀b,Kk b->b<w.heap.size->K b\/b=ab
section
variable {O K:Nat->Prop}{gb pb ab n pcp cp:Nat}{pv:Nat->Nat}{sv:Nat->Value}{Bs:Nat->Nat->Prop}{w:World}{Wg bx k:Nat}{Ok Kk:Nat->Prop}
def At.c:qq Ok Kk (At O K ab n cp Bs w Wg bx k Ok Kk):=by
 intro wL wg hs hz ho j;refine⟨j.h,j.o,j.s,j.q,j.t,fun b hb hn=>?_,fun b hb=>(hs b (.inr (j.s b hb))).trans (j.f b hb),(cU (hs bx j.q) 0).trans j.l,yr j.size hz,ho.trans j.u,⟨j.e.1,j.e.2.1,yg j.e.2.2.1 hz,yg j.e.2.2.2.1 hz,j.e.2.2.2.2⟩,j.m,j.j⟩;by_cases e:b=ab
 ·subst e;exact(hs b j.o).trans (j.d b hb hn)
 ·exact(hs b (.inl (j.h b hb hn e))).trans (j.d b hb hn)
def At.g(h:qY O K gb pb ab n pcp cp pv sv Bs w)(j:At O K ab n cp Bs w Wg bx k Ok Kk wL)(hk:k<=n):wL.cell? (aT gb 0)=some (sT pb n pcp):=(cU (j.d gb h.o fun i hi hb=>(h.f i ω gb hb).2.1 rfl) 0).trans h.g
def At.p(h:qY O K gb pb ab n pcp cp pv sv Bs w)(j:At O K ab n cp Bs w Wg bx k Ok Kk wL)(hk:k<=n)(hi:i<n):wL.cell? (aT pb i)=some (.pointer (some ⟨pv i,0,none⟩)):=(cU (j.d pb h.q fun i hi hb=>(h.f i ω pb hb).2.2.1 rfl) i).trans (h.p i hi)
def At.a(h:qY O K gb pb ab n pcp cp pv sv Bs w)(j:At O K ab n cp Bs w Wg bx k Ok Kk wL)(hk:k<=n)(hi:i<n):wL.cell? (aT ab i)=some (sv i):=(cU (j.d ab h.l fun i hi hb=>(h.f i ω ab hb).2.2.2 rfl) i).trans (h.a i hi)
end
variable {x b:Nat}{u:Value}
section
variable {Post:Value->World->Prop}{O K:Nat->Prop}{gb pb ab n pcp cp:Nat}{pv:Nat->Nat}{sv:Nat->Value}{Bs:Nat->Nat->Prop}{w:World}{Wg bx k:Nat}{Ok Kk:Nat->Prop}{Qs:List bE}
def At.r(j:At O K ab n cp Bs w Wg bx k Ok Kk wL){wg:World}(a:∀b,b<wL.heap.size->wg.heap[b]?=wL.heap[b]?)(g:wL.heap.size<=wg)(h:wg.eo=wL.eo)(s:wL.heap.size<=x)(l:∀b,O b->b<w.heap.size)(i:∀b,K b->b<w.heap.size) :
 At O K ab n cp Bs w Wg bx k (fun b=>Ok b\/b=x) Kk wg:=by
 have p:=j.size;obtain⟨m,r,o,t,q⟩:=j.e;exact⟨fun b c f e=>.inl (j.h b c f e),j.o.imp .inl id,j.s,j.q.imp .inl id,fun e=>j.t (e.imp (fun e=>e.resolve_right fun e=>by omega) id),fun b c f=>(a b ν).trans (j.d b c f),fun b c=>(a b ν).trans (j.f b c),
  (cU (a bx o) 0).trans j.l,yr p g,h.trans j.u,⟨m,r,ω,ω,q⟩,fun b c d=>c.elim (fun c=>j.m b c d) fun e=>ω,j.j⟩
def At.v(j:At O K ab n cp Bs w Wg bx k Ok Kk wL)(p:w.heap.size<=x)(l:x≠bx)(f:∀b,O b->b<w.heap.size)(d:∀b,K b->b<w.heap.size)(o:Nat)(v:Value):At O K ab n cp Bs w Wg bx k Ok Kk (wL.setCell ⟨x,o,none⟩ v):=by
 have c:=aside_setCell wL ⟨x,o,none⟩ v;obtain⟨g,m,q,r,h⟩:=j.e;exact⟨j.h,j.o,j.s,j.q,j.t,fun b a i=>(c.block b (fun e=>by grind)).trans (j.d b a i),fun b a=>(c.block b (fun e=>by grind)).trans (j.f b a),
  (cU (c.block bx (fun e=>l e.symm)) 0).trans j.l,by rw[c.size];omega,(Go.Pm.oV c.os c.output).trans j.u,⟨g,m,by simp_all,by simp_all,h⟩,j.m,j.j⟩
def js{w:World}{t:TypeId}(h:w.heap[b]?=some (.cells #[u] t)):w.cell? (aT b 0)=some u/\w.frozen? (aT b 0)=false:=by
 constructor
 ·unfold World.cell?;grind
 ·unfold World.frozen?;grind
def zK{w:World}{t:TypeId}(h:w.heap[b]?=some (.cells #[u] t))(v:Value):(w.setCell ⟨b,0,none⟩ v).heap[b]?=some (.cells #[v] t):=by
 rw[setCell_eq_setRow w b 0 #[u] t _ _ h,setRow_heap w b _ _ t _ h];simp
def zE(K:Nat->Prop)(ab n cp:Nat)(pv:Nat->Nat)(sv:Nat->Value)(Bs:Nat->Nat->Prop)(QQ:Nat->bE)(w:World)(Wg bx k:Nat):Prop:=
 ∀ (R : Nat -> Prop) (ic pc : Nat) (wL : World), (∀ b, K b -> R b) -> CK R pc bx ic ab k n cp (.pointer (some ⟨pv k, 0, none⟩)) (sv k) wL -> (∀ b, Bs k b \/ K b -> wL.heap[b]? = w.heap[b]?) -> w.heap.size <= wL -> wL.eo = w.eo -> WgLive 148 Wg wL -> Wg < wL ->
   ∃T,Wk prog 148 Wg (QQ k) R T 7 0 (Bs k) (born prog (kV Wg pc bx ic)) wL
set_option maxRecDepth 100000 in
def AO(h:qY O K gb pb ab n pcp cp pv sv Bs w){Y:Nat->bE}(W:∀k,k<n->zE K ab n cp pv sv Bs Y w Wg bx k){c:Frame}{rest:List Frame}
 (d3:∀(On Kn:Nat->Prop) (o:World) (T:Array Value),At O K ab n cp Bs w Wg bx n On Kn o->WgLive 148 Wg o->T.size=21->T[4]?=some (pT Wg 0)->aC prog 148 Post Wg ((List.range n).map Y) .sp On Kn (G ((base 60).at ⟨T,[]⟩ [.code C8]) (c::rest)) o) :
 ∀ (r k : Nat), k + r = n -> ∀ (Ok S : Nat -> Prop) (o : World) (v2 v5 v6 v7 v8 v9 b7 b3 a7 b2 b5 a8 c1 b6 : Value), At O K ab n cp Bs w Wg bx k Ok S o -> WgLive 148 Wg o ->
   aC prog 148 Post Wg ((List.range k).map Y) .sp Ok S (G ((base 60).at ⟨#[pT gb 0,sT ab n cp,v2,pT bx 0,pT Wg 0,v5,v6,v7,v8,v9,sT pb n pcp,.int .i64 n,.int .i64 k,b7,b3,a7,b2,b5,a8,c1,b6],[]⟩
    [.code C0,.inLoop C0,.inBlock 0,.code C8]) (c::rest)) o:=by
 intro r;induction r with
 | zero =>
   intro k hk Ok S o v2 v5 v6 v7 v8 v9 b7 b3 a7 b2 b5 a8 c1 b6 j hl;obtain rfl:k=n:=ω;refine aC.c ?_ (fun _ _ d hS=>hS d (.c _ _ _ _));refine wN ?_;refine wR ?_;refine wV (.bool false) ?_;refine wN ?_;refine wN ?_;refine wF ?_;refine au rfl (fun _=>stepG_exit rfl) ?_;exact .stop fun d l=>d3 Ok S d _ (At.c.rely l j) (l.d (fun _=>hl) ς) ς ς
 | succ r ih =>
   intro k hk Ok S o v2 v5 v6 v7 v8 v9 b7 b3 a7 b2 b5 a8 c1 b6 j hl;have y:k<n:=ω;obtain⟨QS,a9⟩:∃QS,QS=(List.range k).map Y:=⟨_,rfl⟩;rw[<-a9];have e6:QS.length=k:=by rw[a9];simp
   refine aC.c ?_ (fun _ _ d hS=>hS d (.c _ _ _ _));obtain⟨LP,c0⟩:∃LP,LP=C0:=⟨_,rfl⟩;obtain⟨TL,c4⟩:∃TL,TL=C8:=⟨_,rfl⟩;rw[<-c0,<-c4];rw[<-c0,<-c4] at ih;suffices hX:∀X,X=C0->Go.Pm.Way _ true S _ _ (fun L g d=>aC _ 148 Post Wg QS .sp L S g d) Ok (G ((base 60).at _
    [.code X,.inLoop LP,.inBlock 0,.code TL]) _) o from hX LP c0
   intro X hX;subst hX;refine wN ?_;refine wR ?_;refine wV (.bool true) ?_;refine wN ?_;refine wN ?_;refine wT ?_;iterate 4 (refine wN ?_)
   refine wR ?_;refine wV (.int .i64 k) ?_;refine wV (pT pb k) ?_;refine ag rfl rfl θ (v:=.pointer (some ⟨pv k,0,none⟩)) (fun d l=>by
    have H:=At.c.rely l j;have hp:=H.p h ω y;refine⟨by go_simp,fun e U=>?_⟩;simp[go_sem, *] at U;subst U;exact .inl (H.h pb h.q (fun i hi m=>(h.f i ω pb m).2.2.1 rfl) h.m.2)) ?_
   walk_nrm;refine eP (f:=fun _=>.cells #[.int .i64 0] 3) rfl rfl θ (fun d l=>⟨by go_simp,by simp[go_sem, *]⟩) fun d l=>?_;walk_nrm;have H:=(At.c.rely l j).r (wg:=d.alloc (.cells #[.int .i64 0] 3)) (fun b m=>Below.heap_alloc _ _ _ m) ς rfl (yb _) h.c h.h;have b0:=heap_alloc_new d (.cells #[.int .i64 0] 3);obtain⟨s,c6⟩:∃s,s=d.heap.size:=⟨_,rfl⟩;rw[<-c6] at b0 H ⊢;have e3:(d.alloc (.cells #[.int .i64 0] 3)).heap.size=s+1:=by rw[c6];simp
   have a6:=(At.c.rely l j).e;have e7:=(At.c.rely l j).size;have c7:WgLive 148 Wg (d.alloc (.cells #[.int .i64 0] 3)):=ow (l.d (fun _=>hl) ς) (Below.heap_alloc _ _ _ a6.2.2.2.1);generalize d.alloc _=e8 at *;clear l;refine eP (f:=fun _=>.cells #[.pointer none] 102) rfl rfl θ (fun v F=>⟨by go_simp,by simp[go_sem, *]⟩) fun v F=>?_;walk_nrm;have Q:=At.c.rely F H;have c3:v.heap[s]?=_:=(F.a s (.inl (.inr rfl))).trans b0;have d7:=F.size;rw[e3] at d7;have R:=Q.r (wg:=v.alloc (.cells #[.pointer none] 102)) (fun b m=>Below.heap_alloc _ _ _ m) ς rfl (yb _) h.c h.h;have c9:WgLive 148 Wg (v.alloc (.cells #[.pointer none] 102)):=ow (F.d (fun _=>c7) ς) (Below.heap_alloc _ _ _ Q.e.2.2.2.1);have a5:=heap_alloc_new v (.cells #[.pointer none] 102);have b8:(v.alloc (.cells #[.pointer none] 102)).heap[s]?=_:=(Below.heap_alloc v (.cells #[.pointer none] 102) s ω).trans c3;obtain⟨t,e4⟩:∃t,t=v.heap.size:=⟨_,rfl⟩;rw[<-e4] at a5 R ⊢;generalize v.alloc (.cells #[.pointer none] 102)=f0 at *;clear F;refine j3 (ad:=(aT s 0)) (v:=.int .i64 k) rfl rfl θ (.inl (.inr rfl)) (fun E A=>by
    obtain⟨hc,hz⟩:=js ((A.a s ω).trans b8);refine⟨by simp[go_sem,stored,hc,hz],fun e U=>?_⟩;simp[go_sem,storedEv,hc,hz] at U;rw[U]) fun E A=>?_
   walk_nrm;have a2:=At.c.rely A R;have d0:=zK ((A.a s ω).trans b8) (.int .i64 k);have b9:(E.setCell ⟨s,0,none⟩ (.int .i64 k)).heap[t]?=_:=((aside_setCell E ⟨s,0,none⟩ (.int .i64 k)).block t (fun e=>by grind)).trans ((A.a t (.inl (.inr rfl))).trans a5);have c8:WgLive 148 Wg (E.setCell ⟨s,0,none⟩ (.int .i64 k)):=ow (A.d (fun _=>c9) ς) ((aside_setCell E ⟨s,0,none⟩ (.int .i64 k)).block Wg (fun e=>by grind));have Z:=a2.v (x:=s) ω ω h.c h.h 0 (.int .i64 k);generalize E.setCell ⟨s,0,none⟩ (.int .i64 k)=f1 at *;clear A;refine j3 (ad:=(aT t 0)) (v:=.pointer (some ⟨pv k,0,none⟩)) rfl rfl θ (.inr rfl) (fun z B=>by
    obtain⟨hc,hz⟩:=js ((B.a t (.inl (.inr rfl))).trans b9);refine⟨by simp[go_sem,stored,hc,hz],fun e U=>?_⟩;have d8:=events_store prog z #[] (aT t 0) (.pointer (some ⟨pv k,0,none⟩)) .plain rfl;simp[go_sem,d8,hc,hz] at U;rw[U]) fun z B=>?_
   walk_nrm;have a3:=At.c.rely B Z;have c5:=zK ((B.a t (.inl (.inr rfl))).trans b9) (.pointer (some ⟨pv k,0,none⟩));have c2:(z.setCell ⟨t,0,none⟩ (.pointer (some ⟨pv k,0,none⟩))).heap[s]?=_:=((aside_setCell z ⟨t,0,none⟩ (.pointer (some ⟨pv k,0,none⟩))).block s (fun e=>by grind)).trans ((B.a s ω).trans d0);have d4:WgLive 148 Wg (z.setCell ⟨t,0,none⟩ (.pointer (some ⟨pv k,0,none⟩))):=ow (B.d (fun _=>c8) ς) ((aside_setCell z ⟨t,0,none⟩ (.pointer (some ⟨pv k,0,none⟩))).block Wg (fun e=>by grind));have a4:=a3.v (x:=t) ω ω h.c h.h 0 (.pointer (some ⟨pv k,0,none⟩));generalize z.setCell ⟨t,0,none⟩ (.pointer (some ⟨pv k,0,none⟩))=e9 at *;clear B;refine wN ?_;refine wN ?_;refine wR ?_;refine dS rfl rfl θ rfl Tryz.rA.f_add (nm_add Tryz.FC) rfl ?_;walk_nrm;refine .stop fun I q=>?_;have jj:=At.c.rely q a4;have hI:I.heap[s]?=_:=(q.a s ω).trans c2;have hP:I.heap[t]?=_:=(q.a t (.inl (.inr rfl))).trans c5;have P:=q.d (fun _=>d4) ς;clear q d4 c8 c9 c7 a4 a3 Z a2 R Q H b0 c3 b8 d0 c2 a5 b9 c5;refine so (J:=fun w'=>At O K ab n cp Bs w Wg bx k (fun b=>(Ok b\/b=s)\/b=t) S w'/\w'.heap[s]?=some (.cells #[.int .i64 k] 3)/\w'.heap[t]?=some (.cells #[.pointer (some ⟨pv k,0,none⟩)] 102)) Tryz.rA (fun a b hs hz ho M=>⟨At.c a b hs hz ho M.1,ν,ν⟩) jj.t (by have:=h.e;omega) (fun d1 hj hl=>?_) ⟨jj,hI,hP⟩ P;clear jj hI hP P;obtain⟨jj,hI,hP⟩:=hj;walk_nrm;refine aC.c (Stop:=fun L g d=>aC prog 148 Post Wg QS .go L S g d) ?_ (fun _ _ d hS=>hS d (.c _ _ _ _));refine wN ?_;refine wR ?_;refine ag rfl rfl θ (v:=.func (.func 99) #[] #[pT Wg 0,pT t 0,pT bx 0,pT s 0]) (fun d l=>⟨by simp[go_sem,Instr.makeFunc],fun e U=>by simp[go_sem,Instr.makeFunc] at U⟩) ?_;walk_nrm;refine .stop fun I q=>?_;have C:=At.c.rely q jj;have d5:I.heap[s]?=_:=(q.a s ω).trans hI;have e0:I.heap[t]?=_:=(q.a t (.inl (.inr rfl))).trans hP;have P:=q.d (fun _=>hl) ς;clear q hl jj hI hP;obtain⟨n1,n2,n3,n4,n5⟩:=C.e;have a1:∀b,O b\/K b->b<s/\b<t:=fun b m=>by
    have:b<w:=m.elim (h.c b) (h.h b);omega
   refine uk (d:=kV Wg t bx s) rfl rfl θ (fun w'=>by simp[go_sem,kV]) (fun w'=>by simp[go_sem]) rfl (Y k) (Bs k) (fun b=>K b\/b=bx\/b=ab\/b=s\/b=t) (by have:=h.e;omega) (fun b m=>?_) (fun b m=>?_) (fun b m N=>?_) (fun o D=>?_) (fun o D=>?_)
   ·obtain⟨b1,_,_,b4⟩:=h.f k y b m;exact C.h b b1 (fun i hi M=>h.d k i y ω ω b m M) b4
   ·rcases m with m|rfl|rfl|rfl|rfl
    ·exact .inr (C.s b m)
    ·exact C.q
    ·exact C.o
    ·omega
    omega
   ·obtain⟨b1,_,_,b4⟩:=h.f k y b m;have e5:=h.c b b1;have d6:=a1 b (.inl b1);rcases N with N|N|N|N|N
    ·exact h.ok b b1 N
    all_goals omega
   ·have f:=At.c.rely D C;refine W k y _ s t o (fun b m=>.inl m) ⟨ω,.inr (.inl rfl),ω,ω,(js ((D.a t (.inl (.inr rfl))).trans e0)).1,f.l,(js ((D.a s ω).trans d5)).1,f.a h ω y⟩ (fun b m=>?_) f.size f.u (D.d (fun _=>P) ς) f.e.2.2.2.1;rcases m with m|m
    ·obtain⟨b1,_,_,b4⟩:=h.f k y b m;exact f.d b b1 fun i hi M=>h.d k i y ω ω b m M
    ·exact f.f b m
   ·have f:=At.c.rely D C;have e2:=D.d (fun _=>P) ς;have hn:At O K ab n cp Bs w Wg bx (k+1) (fun b=>((Ok b\/b=s)\/b=t)/\¬Bs k b/\¬(K b\/b=bx\/b=ab\/b=s\/b=t)) (fun b=>S b\/(K b\/b=bx\/b=ab\/b=s\/b=t)) o:=by
     refine⟨fun b m hn e=>⟨f.h b m (fun i hi=>hn i ω) e,hn k ω,?_⟩,ω,fun b m=>ν,ω,?_,fun b m hn=>f.d b m fun i hi=>hn i ω,f.f,f.l,f.size,f.u,f.e,fun b m V=>⟨(f.m b m.1 V).1,fun i hi=>?_⟩,fun b m V=>?_⟩
     ·have e5:=h.c b m;have d6:=a1 b (.inl m);rintro(N|N|N|N|N)
      ·exact h.ok b m N
      all_goals omega
     ·have ha:=h.c ab h.l;rintro(M|M|M|M|M|M|M)
      ·exact f.t (.inl M.1)
      ·exact f.t (.inr M)
      ·exact f.t (.inr (f.s _ M))
      all_goals omega
     ·by_cases e:i=k
      ·grind
      ·exact(f.m b m.1 V).2 i ω
     ·rcases m with m|m|m|m|m|m
      ·exact f.j b m V
      ·grind
      ·omega
      ·omega
      all_goals omega
    have d9:QS++[Y k]=(List.range (k+1)).map Y:=by rw[a9,List.range_succ];simp
    rw[d9];have e1:IntKind.i64.wrap ((k:Int)+1)=((k+1:Nat):Int):=by rw[IntKind.wrap_i64];have:=h.e;omega
    walk_nrm;refine aC.c (Stop:=fun L g d=>aC prog 148 Post Wg ((List.range (k+1)).map Y) .sp L _ g d) ?_ (fun _ _ d hS=>hS d (.c _ _ _ _));obtain⟨d2,a0⟩:∃d2,d2=(List.range (k+1)).map Y:=⟨_,rfl⟩;rw[<-a0];refine wN ?_;refine wN ?_;refine wR ?_;iterate 2 (refine wV (.int .i64 ((k+1:Nat):Int)) ?_;walk_nrm)
    refine wN ?_;refine au rfl (fun _=>stepG_inLoop) ?_;refine .stop fun d l=>?_;rw[a0];apply ih (k+1) ω _ _ d;exact At.c.rely l hn;exact l.d (fun _=>e2) ς
end
variable {c:Frame}
def xw{P:Program}{e:Bool}{K:Nat->Prop}{A:World->Prop}{X:Event->Prop}{d:(Nat->Prop)->Goroutine->World->Prop}{O:Nat->Prop}{w:World}{b:Frame}{a:Act}{f:List Item}{i:List Frame}{j:Func}(m:b.kind=.normal)(l:a.defers=[])(k:P.funcs[b.fn]?=some j)(g:j.results=#[])
 (h:Go.Pm.Way P e K A X d O (G (c.finish (.tuple #[])) i) w):Go.Pm.Way P e K A X d O (G { b.at a f with mode:=.returning } (c::i)) w:=
 au rfl (fun w=>by rw[stepG_leave m l k (results_none g _ P w) (events_results_none g _ _)]) h
section
variable {Post:Value->World->Prop}{O K:Nat->Prop}{gb pb ab n pcp cp:Nat}{pv:Nat->Nat}{sv:Nat->Value}{Bs:Nat->Nat->Prop}{w:World}
set_option maxRecDepth 100000 in
def ss(h:qY O K gb pb ab n pcp cp pv sv Bs w){QQ:Nat->bE}(D:∀p u,w.heap.size<=p->w.heap.size<=u->∀k,k<n->zE K ab n cp pv sv Bs QQ w p u k)
 (hQ:∀k,k<n->∀(O':Nat->Prop) (w v:World),(∀b,O' b\/K b->v.heap[b]?=w.heap[b]?)->w.heap.size<=v->v.eo=w.eo->QQ k O' w->QQ k O' v) {C:List Frame}{W:Nat}
 (a9:∀(p u:Nat) (X F:Nat->Prop) (E:Nat->Nat->Prop) (w':World),At O K ab n cp Bs w p u n X F w'->(∀i,i<n->QQ i (E i) w')->(∀i,i<n->∀b,E i b->¬X b/\¬F b/\b<w'.heap.size)->(∀i k,i<n->k<n->i≠k->∀b,E i b->¬E k b)->
  aC prog 148 Post p [] .free (fun b=>X b\/∃i,i<n/\E i b) F (G (c.finish (.tuple #[])) C) w') :
 aC prog 148 Post W [] .free O K (G (Frame.enter prog 60 #[pT gb 0,sT ab n cp] .normal) (c::C)) w:=by
 rw[enter_at _ Tryz.func60 rfl];refine aC.c ?_ (fun _ _ d R=>R d (.c _ _ _ _));simp only[Tryz.f60];refine wN ?_;refine wR ?_;refine eP (f:=fun _=>.cells #[sT ab n cp] 100) rfl rfl θ (fun d o=>⟨by go_simp,by simp[go_sem, *]⟩) fun d o=>?_;have P:=heap_alloc_new d (.cells #[sT ab n cp] 100);have x:∀b,b<d.heap.size->(d.alloc (.cells #[sT ab n cp] 100)).heap[b]?=d.heap[b]?:=fun b m=>Below.heap_alloc _ _ _ m;have a3:(d.alloc (.cells #[sT ab n cp] 100)).heap.size=d.heap.size+1:=ς;have a2:(d.alloc (.cells #[sT ab n cp] 100)).eo=w.eo:=o.f;have a0:=o.size;have y:=o.a;obtain⟨u,b5⟩:∃u,u=d.heap.size:=⟨_,rfl⟩;rw[<-b5] at P x a3 a0 ⊢;refine wN ?_;refine wN ?_;refine wR ?_;refine eP (f:=fun _=>wgBlock 148 0 0) rfl rfl θ (fun f l=>⟨by simp only[wgBlock];go_simp,by simp[go_sem, *]⟩) fun f l=>?_;have M:=heap_alloc_new f (wgBlock 148 0 0);have s:∀b,b<f.heap.size->(f.alloc (wgBlock 148 0 0)).heap[b]?=f.heap[b]?:=fun b m=>Below.heap_alloc _ _ _ m;have a6:(f.alloc (wgBlock 148 0 0)).heap.size=f.heap.size+1:=ς;have a7:(f.alloc (wgBlock 148 0 0)).eo=w.eo:=l.f.trans a2;have a4:=l.size;have r:=l.a;obtain⟨p,b4⟩:∃p,p=f.heap.size:=⟨_,rfl⟩;rw[<-b4] at M s a6 a4 ⊢;refine wN ?_;refine .stop fun B q=>?_;have a8:=(q.a p (.inl (.inr rfl))).trans M;have j:At O K ab n cp Bs w p u 0 (fun b=>((O b\/b=u)\/b=p)/\b≠p) K B:=by
  have a5:∀b,b<w.heap.size->O b\/K b->B.heap[b]?=w.heap[b]?:=fun b N m=>
   (q.a b ν).trans ((s b ω).trans ((r b (m.imp .inl id)).trans ((x b ω).trans (y b m))))
  have b2:=(q.a u ω).trans ((s u ω).trans ((r u (.inl (.inr rfl))).trans P));have b8:=q.size;refine⟨fun b m _ _=>⟨.inl (.inl m),by have:=h.c b m;omega⟩,.inl ⟨.inl (.inl h.l),by have:=h.c ab h.l;omega⟩,fun b m=>m,.inl ⟨.inl (.inr rfl),ω⟩,?_,fun b m _=>a5 b (h.c b m) (.inl m),fun b m=>a5 b (h.h b m) (.inr m),(js b2).1,ω,q.f.trans a7,⟨ω,ω,ω,ω,ω⟩,fun b m N=>⟨?_,fun i z=>ω⟩,fun b m _=>.inl m⟩
  ·rintro(hx|hx)
   ·omega
   ·have:=h.h p hx;omega
  ·rcases m.1 with (m|m)|m
   ·exact m
   ·omega
   ·omega
 refine .enter (.inr rfl) a8 ?_;have U:w.heap.size<=p:=j.e.2.1;have S:w.heap.size<=u:=j.e.1;clear q M s a6 a7 r x a3 a2 y a0 a4 P;have hl:WgLive 148 p B:=⟨0,0,a8⟩;refine aC.c (Stop:=fun t g d=>aC prog 148 Post p [] .sp t K g d) ?_ (fun _ _ d R=>R d (.c _ _ _ _));refine wN ?_;refine wN ?_;refine wR ?_;iterate 3 (refine wV (pT gb 0) ?_;walk_nrm)
 refine ag rfl rfl θ (v:=sT pb n pcp) (fun d o=>by
  have I:=At.c.rely o j;have hp:=I.g h ω;refine⟨by go_simp,fun e he=>?_⟩;simp[go_sem, *] at he;subst he;exact .inl (I.h gb h.o (fun i z=>by omega) h.m.1)) ?_
 walk_nrm;refine wV (.int .i64 n) ?_;walk_nrm;refine wV (.int .i64 ((0:Nat):Int)) ?_;walk_nrm;refine wN ?_;refine wN ?_;refine au rfl (fun _=>stepG_loop) ?_;refine .stop fun b0 L=>?_;have A:=AO (Post:=Post) (Wg:=p) (bx:=u) h (D p u U S) (c:=c) (rest:=C) ?_ n 0 ω _ _ b0 undef undef undef (pT gb 0) (pT gb 0) (pT gb 0) undef undef undef undef undef undef undef undef (At.c.rely L j) (L.d (fun _=>hl) ς)
 ·simp only[C0,C8,CZ,xu,Tryz.f60,yv] at A;exact A
 ·intro X F v T jn b7 hT h4;obtain⟨Y,Z⟩:∃Y,Y=(List.range n).map QQ:=⟨_,rfl⟩;rw[<-Z];have b3:Y.length=n:=by rw[Z];simp
  have a1:∀(i:Nat) (Q:bE),Y[i]?=some Q->i<n/\Q=QQ i:=fun i Q z=>by
   grind
  have b6:∀i,i<n->Y[i]?=some (QQ i):=fun i z=>ν;refine aC.c (Stop:=fun t g d=>aC prog 148 Post p Y .sp t F g d) ?_ (fun _ _ d R=>R d (.c _ _ _ _));simp only[C8,xu,Tryz.f60,yv];refine wR ?_;refine dS rfl rfl θ rfl Tryz.rA.f_wait (nm_wait Tryz.FC) rfl ?_;have V:(#[Operand.tmp 4].map (Act.eval ⟨T,[]⟩))=#[pT p 0]:=by
   simp[Act.eval,h4]
  rw[V];refine .stop fun d o=>?_;refine qu (J:=At O K ab n cp Bs w p u n X F) Tryz.rA At.c jn.t (by have:=h.e;omega) (fun i Q z O' a b hs=>?_) (fun H E b1 q1 q2 q3=>?_) (At.c.rely o jn) (o.d (fun _=>b7) ς)
  ·obtain⟨N,rfl⟩:=a1 i Q z;exact hQ i N O' a b fun c hc=>hs c (hc.imp id (jn.s c))
  ·rw[b3] at q2 q3 ⊢;refine aC.c (Stop:=fun t g d=>aC prog 148 Post p [] .free t F g d) ?_ (fun _ _ d R=>R d (.c _ _ _ _));refine wN ?_;refine au rfl (fun _=>stepG_end) ?_;refine xw rfl rfl Tryz.func60 rfl ?_;refine .stop fun f l=>a9 p u X F E f (At.c H f (fun b m=>l.a b (m.imp .inl id)) l.size l.f b1) (fun i z=>hQ i z (E i) H f (fun b m=>l.a b (m.imp (fun m=>ν) (jn.s b))) l.size l.f (q1 i (QQ i) (b6 i z))) (fun i z b m=>⟨(q2 i z b m).1,(q2 i z b m).2.1,yg (q2 i z b m).2.2 l.size⟩) q3
end
variable {bx ab n cp:Nat}{w:World}
section
variable {Wg:Nat}{L:WgLink}
def Fx(x y:Value):(#[x,y]++Array.replicate 115 undef:Array Value)=#[x,y,undef,undef,undef,undef,undef,undef,undef,undef,undef,undef,undef,undef,undef,undef,undef,undef,undef,undef,undef,undef,undef,undef,undef,undef,undef,undef,undef,undef,undef,undef,undef,undef,undef,undef,undef,undef,undef,undef,undef,undef,undef,undef,undef,undef,undef,undef,undef,undef,undef,undef,undef,undef,undef,undef,undef,undef,undef,undef,undef,undef,undef,undef,undef,undef,undef,undef,undef,undef,undef,undef,undef,undef,undef,undef,undef,undef,undef,undef,undef,undef,undef,undef,undef,undef,undef,undef,undef,undef,undef,undef,undef,undef,undef,undef,undef,undef,undef,undef,undef,undef,undef,undef,undef,undef,undef,undef,undef,undef,undef,undef,undef,undef,undef,undef,undef]:=by walk_nrm
set_option maxRecDepth 100000 in
def CU{P:Program}(H:WgLib P L){c:Frame}{cs:List Frame}{qt:Nat}(hcm:c.mode=.returning)(hT:QuitsD P qt 0 (G c cs))(w:World)(hF:WgLive L.tWg Wg w) :
 Goes P false (RO L.tWg Wg) DC0 (ER P L.tWg Wg) 50 (G ((baseD L.done).at ⟨#[pT Wg 0,undef,undef,undef],[]⟩ [.code (body_done L)]) (c::cs)) w:=by
 lib_facts
 have hA:=@Hu P (c::cs) L Wg H;simp only[Fx,body_add,addFn,yv] at hA;simp only[body_done,doneFn,yv];u_reg aa hF
 u_op aa hF
 u_in aa hF
 refine goes_call rfl rfl (by k_ne) rfl H.f_add (nm_add L) rfl ⟨by u_nil,?_⟩;walk_nrmf addFn
 refine Goes.mono (n:=40) (hA (qt:=qt+3) ?_ _ hF) ω;q_c sE
 q_c stepG_end
 exact QuitsD.leaveD rfl rfl H.f_done rfl hcm hT
end
set_option maxRecDepth 100000 in
def C9{R B:Nat->Prop}{Wg pc ic i:Nat}{pv sv:Value}(hi:i<n)(hF:CK R pc bx ic ab i n cp pv sv w){QQ:bE}(hQ:∀O w wL,Rely O R (WgLive 148 Wg) w wL->QQ O w->QQ O wL)(hl:WgLive 148 Wg w)(hB:¬B Wg)(hlt:Wg<w)
 (hW:ov prog false R (WgLive 148 Wg) oK 101 #[pv,sv] B w fun _=>QQ):∃T,Wk prog 148 Wg QQ R T 7 0 B (born prog (kV Wg pc bx ic)) w:=by
 refine Wk.f (AX (AK (fun _ _ h=>h) hi hF hQ hW) hl hB hlt) fun O g w hS=>?_;obtain⟨⟨_,T,rfl⟩,hl⟩:=hS w (.c _ _ _ _);refine Wk.d (n:=51) (fun wL h₁=>(hS wL h₁).1.1) ?_;clear hS;u_in aa hl
 rw[stepG_unwind_enter rfl Tryz.rA.f_done (nm_done Tryz.FC) rfl];simp only[goes_go];refine⟨by u_nil,?_⟩;have:=CU Tryz.rA (c:={ I7.at ⟨T,[]⟩ [] with mode:=.returning }) (cs:=[Fu]) rfl (AT T) _ hl;simp only[body_done,doneFn,yv] at this;walk_nrmf doneFn
 exact this
def CR{K:Nat->Prop}{pv:Nat->Nat}{sv:Nat->Value}{Bs:Nat->Nat->Prop}{QQ:Nat->bE}{Wg k:Nat}(hk:k<n)(hWg:w.heap.size<=Wg)(hB:∀b,Bs k b->b<w.heap.size)
 (hQ:∀(O':Nat->Prop) (w wL:World),(∀b,O' b\/K b->wL.heap[b]?=w.heap[b]?)->w.heap.size<=wL->wL.eo=w.eo->QQ k O' w->QQ k O' wL)
 (hW:∀(R:Nat->Prop) (A:World->Prop) (wL:World),(∀b,K b->R b)->(∀b,Bs k b\/K b->wL.heap[b]?=w.heap[b]?)->w.heap.size<=wL->wL.eo=w.eo->ov prog false R A oK 101 #[.pointer (some ⟨pv k,0,none⟩),sv k] (Bs k) wL fun _=>QQ k) :
 zE K ab n cp pv sv Bs QQ w Wg bx k:=fun R ic pc wL hR hc hs hz ho hl hlt=>
 C9 hk hc (fun O a b hr=>hQ O a b (fun x hx=>hr.a x (hx.imp id (hR x))) hr.size hr.f) hl (fun hb=>by have:=hB Wg hb;omega) hlt (hW R (WgLive 148 Wg) wL hR hs hz ho)
