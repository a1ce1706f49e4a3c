import Derived.Test.YtoklolfaemhfnaaGreatDoorZam
import Derived.Test.YtoklolfaemhfnaaGreatDoorZaw
set_option maxRecDepth 100000
set_option maxHeartbeats 0
set_option linter.defProp false
open Go.Proofs.Tryz
namespace Go.Cr
section
open Go Go.Conc Go.RowKit Go.Conc.Lib Go.ConcR.Gen Go.ConcN.Gen Go.Proofs
open Go.ConcN (WgLive)
open Go.ConcR (KK wgBlock WgAt stA smA rd wr mk DC0 WgAt.setSt WgAt.setSm)
open Go.Pm (Rely Guar Ev grow)
variable {wL:Δ}{x b:Nat}{u:Θ}
section
variable{Post:Θ->Ξ}{O K:ϑ}{gb pb ab n pcp cp:Nat}{pv:Nat->Nat}{sv:Nat->Θ}{Bs:Nat->ϑ}{w:Δ}{Wg bx k:Nat}{Ok Kk:ϑ}{Qs:List bE}
def At.r(j:At O K ab n cp Bs w Wg bx k Ok Kk wL){wg:Δ}(a:∀b,b<wL.heap.size->wg.heap[b]?=wL.heap[b]?)(g:wL.heap.size<=wg)(h:wg.eo=wL.eo)(s:wL<=x)(l:∀b,O b->b<w)(i:∀b,K b->b<w):At O K ab n cp Bs w Wg bx k (λb=>Ok b\/b=x) Kk wg:=
 let ⟨m,r,o,t,q⟩:=j.e
 ⟨λb c f e=>.inl (j.h b c f e),j.o.imp .inl id,j.s,j.q.imp .inl id,λe=>j.t ((by grind)),λb c f=>(a b ν).trans (j.d b c f),λb c=>(a b ν).trans (j.f b c),
  (cU (a bx o) 0).trans j.l,yr j.size g,h.trans j.u,⟨m,r,ω,ω,q⟩,λb c d=>c.elim (λc=>j.m b c d) λe=>ω,j.j⟩
def At.v(j:At O K ab n cp Bs w Wg bx k Ok Kk wL)(p:w<=x)(l:x≠bx)(f:∀b,O b->b<w)(d:∀b,K b->b<w)(o:Nat)(v:Θ):At O K ab n cp Bs w Wg bx k Ok Kk (wL.setCell ⟨x,o,none⟩ v):=
 have c:=aside_setCell wL ⟨x,o,none⟩ v
 let ⟨g,m,q,r,h⟩:=j.e
 {j with d:=λb a i=>(c.block b λe=>ν).trans (j.d b a i),f:=λb a=>(c.block b λe=>ν).trans (j.f b a),l:=(cU (c.block bx λe=>l e.symm) 0).trans j.l,size:=by rw[c.size];lia,u:=(Pm.oV c.os c.output).trans j.u,e:=⟨g,m,by simp_all,by simp_all,h⟩}
def js{w:Δ}{t:ϟ}(h:w.heap[b]?=some (.cells #[u] t)):w.cell? (aT b 0)=some u/\w.frozen? (aT b 0)=false:=by constructor;unfold World.cell?;grind;unfold World.frozen?;grind
def zK{w:Δ}{t:ϟ}(h:w.heap[b]?=some (.cells #[u] t))(v:Θ):(w.setCell ⟨b,0,none⟩ v).heap[b]?=some (.cells #[v] t):=by rw[setCell_eq_setRow w b 0 #[u] t _ _ h,setRow_heap w b _ _ t _ h];simp
def zE(K:ϑ)(ab n cp:Nat)(pv:Nat->Nat)(sv:Nat->Θ)(Bs:Nat->ϑ)(QQ:Nat->bE)(w:Δ)(Wg bx k:Nat):Prop:=
 ∀(R:ϑ)(ic pc:Nat)(wL:Δ),(∀b,K b->R b)->CK R pc bx ic ab k n cp (.pointer (some ⟨pv k,0,none⟩)) (sv k) wL->(∀b,Bs k b\/K b->wL.heap[b]? =w.heap[b]?)->w.heap.size<=wL->wL.eo=w.eo->WgLive 148 Wg wL->Wg<wL->
   ∃T,Wk prog 148 Wg (QQ k) R T 7 0 (Bs k) (born prog (kV Wg pc bx ic)) wL
set_option maxRecDepth 100000 in
def AO(h:qY O K gb pb ab n pcp cp pv sv Bs w){Y:Nat->bE}(W:∀k,k<n->zE K ab n cp pv sv Bs Y w Wg bx k){c:Frame}{rest:List Frame}(d3:∀(On Kn:ϑ)(o:Δ)(T:ϡ),At O K ab n cp Bs w Wg bx n On Kn o->WgLive 148 Wg o->T.size=21->T[4]?=some (pT Wg 0)->aC prog 148 Post Wg ((List.range n).map Y) .sp On Kn (G ((base 60).at ⟨T,[]⟩ [.code C8]) (c::rest)) o):∀(r k:Nat),k+r=n->∀(Ok S:ϑ)(o:Δ)(v2 v5 v6 v7 v8 v9 b7 b3 a7 b2 b5 a8 c1 b6:Θ),At O K ab n cp Bs w Wg bx k Ok S o->WgLive 148 Wg o->
   aC prog 148 Post Wg ((List.range k).map Y) .sp Ok S (G ((base 60).at ⟨#[pT gb 0,sT ab n cp,v2,pT bx 0,pT Wg 0,v5,v6,v7,v8,v9,sT pb n pcp,ϲ n,ϲ k,b7,b3,a7,b2,b5,a8,c1,b6],[]⟩
    [.code C0,.inLoop C0,.inBlock 0,.code C8]) (c::rest)) o:=by
 intro r;induction r with
 |zero=>
  intro k hk Ok S o v2 v5 v6 v7 v8 v9 b7 b3 a7 b2 b5 a8 c1 b6 j hl;obtain rfl:k=n:=ω;refine aC.c ?_ λ_ _ d hS=>hS d (.c _ _ _ _);refine wN ?_;refine wR ?_;refine wV (.bool false) ?_;refine wN ?_;refine wN ?_;refine wF ?_;refine au rfl (λ_=>stepG_exit rfl) ?_;exact .stop λd l=>d3 Ok S d _ (At.c.rely l j) (l.d (λ_=>hl) ς) ς ς
 |succ r ih=>
  intro k hk Ok S o v2 v5 v6 v7 v8 v9 b7 b3 a7 b2 b5 a8 c1 b6 j hl;have y:k<n:=ω;obtain⟨QS,a9⟩:∃QS,QS=(List.range k).map Y:=⟨_,rfl⟩;rw[<-a9];have e6:QS.length=k:=by rw[a9];simp
  refine aC.c ?_ λ_ _ d hS=>hS d (.c _ _ _ _);obtain⟨LP,c0⟩:∃LP,LP=C0:=⟨_,rfl⟩;obtain⟨TL,c4⟩:∃TL,TL=C8:=⟨_,rfl⟩;rw[<-c0,<-c4];rw[<-c0,<-c4]at ih;suffices hX:∀X,X=C0->Pm.Way _ true S _ _ (λL g d=>aC _ 148 Post Wg QS .sp L S g d) Ok (G ((base 60).at _
   [.code X,.inLoop LP,.inBlock 0,.code TL]) _) o from hX LP c0
  intro X hX;subst hX;refine wN ?_;refine wR ?_;refine wV (.bool true) ?_;refine wN ?_;refine wN ?_;refine wT ?_;iterate 4 (refine wN ?_)
  refine wR ?_;refine wV (ϲ k) ?_;refine wV (pT pb k) ?_;refine ag rfl rfl θ (v:=.pointer (some ⟨pv k,0,none⟩)) (λd l=>by have H:=At.c.rely l j;have hp:=H.p h ω y;refine⟨by go_simp,λe U=>?_⟩;simp[go_sem, *]at U;subst U;exact .inl (H.h pb h.q (λi hi m=>(h.f i ω pb m).2.2.1 rfl) h.m.2)) ?_
  walk_nrm;refine eP (f:=λ_=>.cells #[ϲ 0] 3) rfl rfl θ (λd l=>⟨by go_simp,by simp[go_sem, *]⟩) λd l=>?_;walk_nrm;have H:=(At.c.rely l j).r (wg:=d.alloc (.cells #[ϲ 0] 3)) (λb m=>Below.heap_alloc _ _ _ m) ς rfl Ϫ h.c h.h;have b0:=heap_alloc_new d (.cells #[ϲ 0] 3);obtain⟨s,c6⟩:∃s,s=d.heap.size:=⟨_,rfl⟩;rw[<-c6]at b0 H|-;have e3:(d.alloc (.cells #[ϲ 0] 3))=s+1:=by rw[c6];simp
  have a6:=(At.c.rely l j).e;have e7:=(At.c.rely l j).size;have c7:WgLive 148 Wg (d.alloc (.cells #[ϲ 0] 3)):=ow (l.d (λ_=>hl) ς) ((by grind[Below.heap_alloc]));generalize d.alloc _=e8 at*;clear l;refine eP (f:=λ_=>.cells #[.pointer none] 102) rfl rfl θ (λv F=>⟨by go_simp,by simp[go_sem, *]⟩) λv F=>?_;walk_nrm;have Q:=At.c.rely F H;have c3:v.heap[s]?=_:=(F.a s (.inl (.inr rfl))).trans b0;have d7:=F.size;rw[e3]at d7;have R:=Q.r (wg:=v.alloc (.cells #[.pointer none] 102)) (λb m=>Below.heap_alloc _ _ _ m) ς rfl Ϫ h.c h.h;have c9:WgLive 148 Wg (v.alloc (.cells #[.pointer none] 102)):=ow (F.d (λ_=>c7) ς) ((by grind[Below.heap_alloc]));have a5:=heap_alloc_new v (.cells #[.pointer none] 102);have b8:(v.alloc (.cells #[.pointer none] 102)).heap[s]?=_:=(Below.heap_alloc v (.cells #[.pointer none] 102) s ω).trans c3;obtain⟨t,e4⟩:∃t,t=v.heap.size:=⟨_,rfl⟩;rw[<-e4]at a5 R|-;generalize v.alloc (.cells #[.pointer none] 102)=f0 at*;clear F;refine j3 (ad:=(aT s 0)) (v:=ϲ k) rfl rfl θ (.inl (.inr rfl)) (λE A=>by obtain⟨hc,hz⟩:=js ((A.a s ω).trans b8);refine⟨by simp[go_sem,stored,hc,hz],λe U=>?_⟩;simp[go_sem,storedEv,hc,hz]at U;rw[U]) λE A=>?_
  walk_nrm;have a2:=At.c.rely A R;have d0:=zK ((A.a s ω).trans b8) (ϲ k);have b9:(E.setCell ⟨s,0,none⟩ (ϲ k)).heap[t]?=_:=((aside_setCell E ⟨s,0,none⟩ (ϲ k)).block t λe=>ν).trans ((A.a t (.inl (.inr rfl))).trans a5);have c8:WgLive 148 Wg (E.setCell ⟨s,0,none⟩ (ϲ k)):=ow (A.d (λ_=>c9) ς) ((aside_setCell E ⟨s,0,none⟩ (ϲ k)).block Wg λe=>ν);have Z:=a2.v (x:=s) ω ω h.c h.h 0 (ϲ k);generalize E.setCell ⟨s,0,none⟩ (ϲ k)=f1 at*;clear A;refine j3 (ad:=(aT t 0)) (v:=.pointer (some ⟨pv k,0,none⟩)) rfl rfl θ (.inr rfl) (λz B=>by obtain⟨hc,hz⟩:=js ((B.a t (.inl (.inr rfl))).trans b9);refine⟨by simp[go_sem,stored,hc,hz],λe U=>?_⟩;simp[go_sem,(events_store prog z #[] (aT t 0) (.pointer (some ⟨pv k,0,none⟩)) .plain rfl),hc,hz]at U;rw[U]) λz B=>?_
  walk_nrm;have a3:=At.c.rely B Z;have c5:=zK ((B.a t (.inl (.inr rfl))).trans b9) (.pointer (some ⟨pv k,0,none⟩));have c2:(z.setCell ⟨t,0,none⟩ (.pointer (some ⟨pv k,0,none⟩))).heap[s]?=_:=((aside_setCell z ⟨t,0,none⟩ (.pointer (some ⟨pv k,0,none⟩))).block s λe=>ν).trans ((B.a s ω).trans d0);have d4:WgLive 148 Wg (z.setCell ⟨t,0,none⟩ (.pointer (some ⟨pv k,0,none⟩))):=ow (B.d (λ_=>c8) ς) ((aside_setCell z ⟨t,0,none⟩ (.pointer (some ⟨pv k,0,none⟩))).block Wg λe=>ν);have a4:=a3.v (x:=t) ω ω h.c h.h 0 (.pointer (some ⟨pv k,0,none⟩));generalize z.setCell ⟨t,0,none⟩ (.pointer (some ⟨pv k,0,none⟩))=e9 at*;clear B;refine wN ?_;refine wN ?_;refine wR ?_;refine dS rfl rfl θ rfl Tryz.rA.f_add (nm_add Tryz.FC) rfl ?_;walk_nrm;refine .stop λI q=>?_;have jj:=At.c.rely q a4;have hI:I.heap[s]?=_:=(q.a s ω).trans c2;have hP:I.heap[t]?=_:=(q.a t (.inl (.inr rfl))).trans c5;have P:=q.d (λ_=>d4) ς;clear q d4 c8 c9 c7 a4 a3 Z a2 R Q H b0 c3 b8 d0 c2 a5 b9 c5;refine so (J:=λw'=>At O K ab n cp Bs w Wg bx k (λb=>(Ok b\/b=s)\/b=t) S w'/\w'.heap[s]?=some (.cells #[ϲ k] 3)/\w'.heap[t]?=some (.cells #[.pointer (some ⟨pv k,0,none⟩)] 102)) Tryz.rA (λa b hs hz ho M=>⟨At.c a b hs hz ho M.1,ν,ν⟩) jj.t (ϕ h.e) (λd1 hj hl=>?_) ⟨jj,hI,hP⟩ P;clear jj hI hP P;obtain⟨jj,hI,hP⟩:=hj;walk_nrm;refine aC.c (Stop:=λL g d=>aC prog 148 Post Wg QS .go L S g d) ?_ λ_ _ d hS=>hS d (.c _ _ _ _);refine wN ?_;refine wR ?_;refine ag rfl rfl θ (v:=.func (.func 99) #[] #[pT Wg 0,pT t 0,pT bx 0,pT s 0]) (λd l=>⟨by simp[go_sem,Instr.makeFunc],λe U=>by simp[go_sem,Instr.makeFunc]at U⟩) ?_;walk_nrm;refine .stop λI q=>?_;have C:=At.c.rely q jj;have d5:I.heap[s]?=_:=(q.a s ω).trans hI;have e0:I.heap[t]?=_:=(q.a t (.inl (.inr rfl))).trans hP;have P:=q.d (λ_=>hl) ς;clear q hl jj hI hP;obtain⟨n1,n2,n3,n4,n5⟩:=C.e;have a1:∀b,O b\/K b->b<s/\b<t:=λb m=>by have:b<w:=m.elim (h.c b) (h.h b);lia
  refine uk (d:=kV Wg t bx s) rfl rfl θ (λw'=>by simp[go_sem,kV]) (λw'=>by simp[go_sem]) rfl (Y k) (Bs k) (λb=>K b\/b=bx\/b=ab\/b=s\/b=t) (ϕ h.e) (λb m=>?_) (λb m=>?_) (λb m N=>?_) (λo D=>?_) λo D=>?_;obtain⟨b1,_,_,b4⟩:=h.f k y b m;exact C.h b b1 (λi hi M=>h.d k i y ω ω b m M) b4
  .rcases m with m|rfl|rfl|rfl|rfl;exact .inr (C.s b m);exact C.q;exact C.o
   .lia
   lia
  .obtain⟨b1,_,_,b4⟩:=h.f k y b m;have e5:=h.c b b1;have d6:=a1 b (.inl b1);rcases N with N|N|N|N|N;exact h.ok b b1 N;all_goals lia
  have f:=At.c.rely D C;refine W k y _ s t o (λb m=>.inl m) ⟨ω,.inr (.inl rfl),ω,ω,(js ((D.a t (.inl (.inr rfl))).trans e0)).1,f.l,(js ((D.a s ω).trans d5)).1,f.a h ω y⟩ (λb m=>?_) f.size f.u (D.d (λ_=>P) ς) f.e.2.2.2.1;rcases m with m|m;obtain⟨b1,_,_,b4⟩:=h.f k y b m;exact f.d b b1 λi hi M=>h.d k i y ω ω b m M;exact f.f b m;have f:=At.c.rely D C;have hn:At O K ab n cp Bs w Wg bx (k+1) (λb=>((Ok b\/b=s)\/b=t)/\¬Bs k b/\¬(K b\/b=bx\/b=ab\/b=s\/b=t)) (λb=>S b\/(K b\/b=bx\/b=ab\/b=s\/b=t)) o:=by
   refine⟨λb m hn e=>⟨f.h b m (λi hi=>hn i ω) e,hn k ω,?_⟩,ω,λb m=>ν,ω,?_,λb m hn=>f.d b m λi hi=>hn i ω,f.f,f.l,f.size,f.u,f.e,λb m V=>⟨(f.m b m.1 V).1,λi hi=>?_⟩,λb m V=>?_⟩
   .have e5:=h.c b m;have d6:=a1 b (.inl m);rintro(N|N|N|N|N);exact h.ok b m N;all_goals lia
   .have ha:=h.c ab h.l;rintro(M|M|M|M|M|M|M);exact f.t (.inl M.1);exact f.t (.inr M);exact f.t (.inr (f.s _ M));all_goals lia
   .by_cases e:i=k
    grind
    exact(f.m b m.1 V).2 i ω
   rcases m with m|m|m|m|m|m;exact f.j b m V;grind
   .lia
   .lia
   all_goals lia
  rw[(by grind[List.range_succ]:QS++[Y k]=(List.range (k+1)).map Y)];have e1:IntKind.i64.wrap ((k:Int)+1)=((k+1:Nat):Int):=by rw[IntKind.wrap_i64];have:=h.e;lia
  walk_nrm;refine aC.c (Stop:=λL g d=>aC prog 148 Post Wg ((List.range (k+1)).map Y) .sp L _ g d) ?_ λ_ _ d hS=>hS d (.c _ _ _ _);obtain⟨d2,a0⟩:∃d2,d2=(List.range (k+1)).map Y:=⟨_,rfl⟩;rw[<-a0];refine wN ?_;refine wN ?_;refine wR ?_;iterate 2 (refine wV (ϲ ((k+1:Nat):Int)) ?_;walk_nrm)
  refine wN ?_;refine au rfl (λ_=>stepG_inLoop) ?_;refine .stop λd l=>?_;rw[a0];apply ih (k+1) ω _ _ d;exact At.c.rely l hn;exact l.d (λ_=>(D.d (λ_=>P) ς)) ς
end
variable {c:Frame}
def xw{P:ϛ}{e:Bool}{K:ϑ}{A:Ξ}{X:Ϥ}{d:(ϑ)->Ϛ->Ξ}{O:ϑ}{w:Δ}{b:Frame}{a:Act}{f:List Item}{i:List Frame}{j:Func}(m:b.kind=.normal)(l:a.defers=[])(k:P.funcs[b.fn]?=some j)(g:j.results=#[])(h:Pm.Way P e K A X d O (G (c.finish ϳ) i) w):Pm.Way P e K A X d O (G {b.at a f with mode:=.returning} (c::i)) w:=
 au rfl (λw=>by rw[stepG_leave m l k (results_none g _ P w) (events_results_none g _ _)]) h
section
variable {Post:Θ->Ξ}{O K:ϑ}{gb pb ab n pcp cp:Nat}{pv:Nat->Nat}{sv:Nat->Θ}{Bs:Nat->ϑ}{w:Δ}
set_option maxRecDepth 100000 in
def ss(h:qY O K gb pb ab n pcp cp pv sv Bs w){QQ:Nat->bE}(D:∀p u,w.heap.size<=p->w.heap.size<=u->∀k,k<n->zE K ab n cp pv sv Bs QQ w p u k)(hQ:∀k,k<n->∀(O':ϑ)(w v:Δ),(∀b,O' b\/K b->v.heap[b]?=w.heap[b]?)->w.heap.size<=v->v.eo=w.eo->QQ k O' w->QQ k O' v){C:List Frame}{W:Nat}(a9:∀(p u:Nat)(X F:ϑ)(E:Nat->ϑ)(w':Δ),At O K ab n cp Bs w p u n X F w'->(∀i,i<n->QQ i (E i) w')->(∀i,i<n->∀b,E i b->¬X b/\¬F b/\b<w'.heap.size)->(∀i k,i<n->k<n->i≠k->∀b,E i b->¬E k b)->
  aC prog 148 Post p [] .free (λb=>X b\/∃i,i<n/\E i b) F (G (c.finish ϳ) C) w'):aC prog 148 Post W [] .free O K (G (Frame.enter prog 60 #[pT gb 0,sT ab n cp] .normal) (c::C)) w:=by
 rw[enter_at _ func60 rfl];refine aC.c ?_ λ_ _ d R=>R d (.c _ _ _ _);simp only[f60];refine wN ?_;refine wR ?_;refine eP (f:=λ_=>.cells #[sT ab n cp] 100) rfl rfl θ (λd o=>⟨by go_simp,by simp[go_sem, *]⟩) λd o=>?_;have P:=heap_alloc_new d (.cells #[sT ab n cp] 100);have x:∀b,b<d.heap.size->(d.alloc (.cells #[sT ab n cp] 100)).heap[b]?=d.heap[b]?:=λb m=>Below.heap_alloc _ _ _ m;have a3:(d.alloc (.cells #[sT ab n cp] 100)).heap.size=d.heap.size+1:=ς;have a2:(d.alloc (.cells #[sT ab n cp] 100)).eo=w.eo:=o.f;have a0:=o.size;have y:=o.a;obtain⟨u,b5⟩:∃u,u=d.heap.size:=⟨_,rfl⟩;rw[<-b5]at P x a3 a0|-;refine wN ?_;refine wN ?_;refine wR ?_;refine eP (f:=λ_=>wgBlock 148 0 0) rfl rfl θ (λf l=>⟨by simp only[wgBlock];go_simp,by simp[go_sem, *]⟩) λf l=>?_;have M:=heap_alloc_new f (wgBlock 148 0 0);have s:∀b,b<f.heap.size->(f.alloc (wgBlock 148 0 0)).heap[b]?=f.heap[b]?:=λb m=>Below.heap_alloc _ _ _ m;have a6:(f.alloc (wgBlock 148 0 0)).heap.size=f.heap.size+1:=ς;have a7:(f.alloc (wgBlock 148 0 0)).eo=w.eo:=l.f.trans a2;have a4:=l.size;have r:=l.a;obtain⟨p,b4⟩:∃p,p=f.heap.size:=⟨_,rfl⟩;rw[<-b4]at M s a6 a4|-;refine wN ?_;refine .stop λB q=>?_;have a8:=(q.a p (.inl (.inr rfl))).trans M;have j:At O K ab n cp Bs w p u 0 (λb=>((O b\/b=u)\/b=p)/\b≠p) K B:=by
  have a5:∀b,b<w.heap.size->O b\/K b->B.heap[b]?=w.heap[b]?:=λb N m=>
   (q.a b ν).trans ((by grind))
  have b2:=(q.a u ω).trans ((s u ω).trans ((r u (.inl (.inr rfl))).trans P));have b8:=q.size;refine⟨λb m _ _=>⟨.inl (.inl m),ϕ (h.c b m)⟩,.inl ⟨.inl (.inl h.l),ϕ (h.c ab h.l)⟩,λb m=>m,(by omega),?_,λb m _=>a5 b (h.c b m) (.inl m),λb m=>a5 b (h.h b m) (.inr m),(js b2).1,ω,q.f.trans a7,⟨ω,ω,ω,ω,ω⟩,λb m N=>⟨?_,λi z=>ω⟩,λb m _=>.inl m⟩
  .rintro(hx|hx)
   .lia
   have:=h.h p hx;lia
  grind
 refine .enter (.inr rfl) a8 ?_;clear q M s a6 a7 r x a3 a2 y a0 a4 P;have hl:WgLive 148 p B:=⟨0,0,a8⟩;refine aC.c (Stop:=λt g d=>aC prog 148 Post p [] .sp t K g d) ?_ λ_ _ d R=>R d (.c _ _ _ _);refine wN ?_;refine wN ?_;refine wR ?_;iterate 3 (refine wV (pT gb 0) ?_;walk_nrm)
 refine ag rfl rfl θ (v:=sT pb n pcp) (λd o=>by have I:=At.c.rely o j;have hp:=I.g h ω;refine⟨by go_simp,λe he=>?_⟩;simp[go_sem, *]at he;subst he;exact .inl (I.h gb h.o (λi z=>by lia) h.m.1)) ?_
 walk_nrm;refine wV (ϲ n) ?_;walk_nrm;refine wV (ϲ ((0:Nat):Int)) ?_;walk_nrm;refine wN ?_;refine wN ?_;refine au rfl (λ_=>stepG_loop) ?_;refine .stop λb0 L=>?_;have A:=AO (Post:=Post) (Wg:=p) (bx:=u) h (D p u j.e.2.1 j.e.1) (c:=c) (rest:=C) ?_ n 0 ω _ _ b0 undef undef undef (pT gb 0) (pT gb 0) (pT gb 0) undef undef undef undef undef undef undef undef (At.c.rely L j) (L.d (λ_=>hl) ς);grind[C0,C8,CZ,xu,f60];intro X F v T jn b7 hT h4;obtain⟨Y,Z⟩:∃Y,Y=(List.range n).map QQ:=⟨_,rfl⟩;rw[<-Z];have b3:Y.length=n:=by rw[Z];simp
 have a1:∀(i:Nat)(Q:bE),Y[i]?=some Q->i<n/\Q=QQ i:=λi Q z=>by grind
 refine aC.c (Stop:=λt g d=>aC prog 148 Post p Y .sp t F g d) ?_ λ_ _ d R=>R d (.c _ _ _ _);simp only[C8,xu,f60,yv];refine wR ?_;refine dS rfl rfl θ rfl Tryz.rA.f_wait (nm_wait Tryz.FC) rfl ?_;have V:(#[Operand.tmp 4].map (Act.eval ⟨T,[]⟩))=#[pT p 0]:=by simp[Act.eval,h4]
 rw[V];refine .stop λd o=>?_;refine qu (J:=At O K ab n cp Bs w p u n X F) Tryz.rA At.c jn.t (ϕ h.e) (λi Q z O' a b hs=>?_) (λH E b1 q1 q2 q3=>?_) (At.c.rely o jn) (o.d (λ_=>b7) ς);obtain⟨N,rfl⟩:=a1 i Q z;exact hQ i N O' a b λc hc=>hs c (hc.imp id (jn.s c));rw[b3]at q2 q3|-;refine aC.c (Stop:=λt g d=>aC prog 148 Post p [] .free t F g d) ?_ λ_ _ d R=>R d (.c _ _ _ _);refine wN ?_;refine au rfl (λ_=>stepG_end) ?_;refine xw rfl rfl func60 rfl ?_;refine .stop λf l=>a9 p u X F E f (At.c H f (λb m=>l.a b (m.imp .inl id)) l.size l.f b1) (λi z=>hQ i z (E i) H f (λb m=>l.a b (m.imp (λm=>ν) (jn.s b))) l.size l.f (q1 i (QQ i) ((λi z=>ν) i z))) (λi z b m=>⟨(q2 i z b m).1,(q2 i z b m).2.1,yg (q2 i z b m).2.2 l.size⟩) q3
end
variable {bx ab n cp:Nat}{w:Δ}
section
variable{Wg:Nat}{L:WgLink}
def Fx(x y:Θ):(#[x,y]++Array.replicate 115 undef:ϡ)=#[x,y,undef,undef,undef,undef,undef,undef,undef,undef,undef,undef,undef,undef,undef,undef,undef,undef,undef,undef,undef,undef,undef,undef,undef,undef,undef,undef,undef,undef,undef,undef,undef,undef,undef,undef,undef,undef,undef,undef,undef,undef,undef,undef,undef,undef,undef,undef,undef,undef,undef,undef,undef,undef,undef,undef,undef,undef,undef,undef,undef,undef,undef,undef,undef,undef,undef,undef,undef,undef,undef,undef,undef,undef,undef,undef,undef,undef,undef,undef,undef,undef,undef,undef,undef,undef,undef,undef,undef,undef,undef,undef,undef,undef,undef,undef,undef,undef,undef,undef,undef,undef,undef,undef,undef,undef,undef,undef,undef,undef,undef,undef,undef,undef,undef,undef,undef]:=by walk_nrm
set_option maxRecDepth 100000 in
def CU{P:ϛ}(H:WgLib P L){c:Frame}{cs:List Frame}{qt:Nat}(hcm:c.mode=.returning)(hT:QuitsD P qt 0 (G c cs))(w:Δ)(hF:WgLive L.tWg Wg w):Goes P false (RO L.tWg Wg) DC0 (ER P L.tWg Wg) 50 (G ((baseD L.done).at ⟨#[pT Wg 0,undef,undef,undef],[]⟩ [.code (body_done L)]) (c::cs)) w:=by
 lib_facts
 have hA:=@Hu P (c::cs) L Wg H;simp only[Fx,body_add,addFn,yv]at hA;simp only[body_done,doneFn,yv];u_reg aa hF;u_op aa hF;u_in aa hF;refine goes_call rfl rfl (by k_ne) rfl H.f_add (nm_add L) rfl ⟨by u_nil,?_⟩;walk_nrmf addFn;refine Goes.mono (n:=40) (hA (qt:=qt+3) ?_ _ hF) ω;q_c sE;q_c stepG_end;exact QuitsD.leaveD rfl rfl H.f_done rfl hcm hT
end
set_option maxRecDepth 100000 in
def C9{R B:ϑ}{Wg pc ic i:Nat}{pv sv:Θ}(hi:i<n)(hF:CK R pc bx ic ab i n cp pv sv w){QQ:bE}(hQ:∀O w wL,Rely O R (WgLive 148 Wg) w wL->QQ O w->QQ O wL)(hl:WgLive 148 Wg w)(hB:¬B Wg)(hlt:Wg<w)(hW:ov prog false R (WgLive 148 Wg) oK 101 #[pv,sv] B w λ_=>QQ):∃T,Wk prog 148 Wg QQ R T 7 0 B (born prog (kV Wg pc bx ic)) w:=by
 refine Wk.f (AX (AK (λ_ _ h=>h) hi hF hQ hW) hl hB hlt) λO g w hS=>?_;obtain⟨⟨_,T,rfl⟩,hl⟩:=hS w (.c _ _ _ _);refine Wk.d (n:=51) (λwL bm=>(hS wL bm).1.1) ?_;clear hS;u_in aa hl;rw[stepG_unwind_enter rfl Tryz.rA.f_done (nm_done Tryz.FC) rfl];simp only[goes_go];refine⟨by u_nil,?_⟩;have:=CU Tryz.rA (c:={I7.at ⟨T,[]⟩ []with mode:=.returning}) (cs:=[Fu]) rfl (AT T) _ hl;simp only[body_done,doneFn,yv]at this;walk_nrmf doneFn;exact this
def CR{K:ϑ}{pv:Nat->Nat}{sv:Nat->Θ}{Bs:Nat->ϑ}{QQ:Nat->bE}{Wg k:Nat}(hk:k<n)(hWg:w.heap.size<=Wg)(hB:∀b,Bs k b->b<w.heap.size)(hQ:∀(O':ϑ)(w wL:Δ),(∀b,O' b\/K b->wL.heap[b]?=w.heap[b]?)->w.heap.size<=wL->wL.eo=w.eo->QQ k O' w->QQ k O' wL)(hW:∀(R:ϑ)(A:Ξ)(wL:Δ),(∀b,K b->R b)->(∀b,Bs k b\/K b->wL.heap[b]?=w.heap[b]?)->w.heap.size<=wL->wL.eo=w.eo->ov prog false R A oK 101 #[.pointer (some ⟨pv k,0,none⟩),sv k] (Bs k) wL λ_=>QQ k):zE K ab n cp pv sv Bs QQ w Wg bx k:=λR ic pc wL hR hc hs hz ho hl hlt=>
 C9 hk hc (λO a b hr=>hQ O a b (λx hx=>hr.a x (hx.imp id (hR x))) hr.size hr.f) hl (λhb=>ϕ (hB Wg hb)) hlt (hW R (WgLive 148 Wg) wL hR hs hz ho)
