import Derived.Test.YtoklolfaemhfnaaGreatDoorZbe
set_option maxRecDepth 100000
set_option maxHeartbeats 0
set_option linter.defProp false
namespace Go.Cr
section
open Go Go.Conc
open Go.ConcN (PermW fork_knows RelBy WgLive sumTo upd upd_same upd_ne sumTo_upd sumTo_upd_out sumTo_congr get_map_set get_map_set_same)
open Go.ConcR (KK wgBlock WgAt stA smA rd wr mk Bk g_of_ofEvents ofEvent_loc_mark ofEvent_cell ofEvent_mk loc_of_ofEvent bk_of_mute WgAt.setSt WgAt.setSm)
open Go.Pm (Rely Guar Ev grow Way)
variable {g':Goroutine}{es:Array Event}{j:Nat}
def CO(P:Program)(Post:Value->World->Prop)(m:Machine)(t:Trace):Prop:=
 ∃N last o w t',runNT P (N+1) m t=(.ended o w,t')/\runN P N m=.next last/\step P last=.ended o w/\Good P Post last o w t'
section
variable {P:Program}{Post:Value->World->Prop}{m m':Machine}{t ops:Trace}
def CO.a(b:stepT P m=(.next m',ops))(h:CO P Post m' (t++ops)):CO P Post m t:=by
 obtain⟨n,a,o,w,e,g,f,d,c⟩:=h;exact⟨_,a,o,w,e,by rw[runNT_succ_next b];exact g,by rw[runN_succ_next b];exact f,d,c⟩
def CO.b{o:Outcome}{w:World}(a:stepT P m=(.ended o w,ops))(h:Good P Post m o w (t++ops)):CO P Post m t:=
 ⟨0,m,o,w,_,by simp[runNT,a],rfl,by simp[step,a],h⟩
end
section
variable {P:Program}{ty:TypeId}{Post:Value->World->Prop}{Wg:Nat}{Qs:List bE}{tag:nX}{blk:Bool}{O K:Nat->Prop}{g:Goroutine}{wst:World}{W:Nat->Prop}{base:Nat}{D:Nat->WS}{gs:Array Goroutine}{w w':World}{t:Trace}
def kA.a1(h:kA P ty Wg Qs tag blk O K g wst W base D gs w t):∀x∈gs,Conc.awake x:=by
 intro x d k;obtain⟨i,a⟩:=Array.mem_iff_getElem?.1 d;cases i with
 | zero =>
   rw[h.p] at a;cases a;cases blk
   ·simp[h.u]
   ·simp
 | succ i =>
   have b:i<base+Qs.length:=by have:=(yk.1 a).1;rw[h.size] at this;omega
   obtain⟨y,c,f⟩:=h.wk i b;rw[a] at c;cases c;rcases f.b.1 with e|e <;> rw[e] <;> simp
def kA.s(h:kA P ty Wg Qs tag blk O K g wst W base D gs w t):∃(i:Nat) (x:Goroutine),gs[i]?=some x/\x.status=.running:=by
 cases d:blk with
 |false=>have:=h.p;rw[d] at this;exact⟨0,g,this,h.u⟩
 | true =>
   have e:=h.c;rw[d] at e;cases e with
   | reg _ c _ =>
     obtain⟨i,k,l⟩:=jr c;obtain⟨x,a,b⟩:=h.wk i k;exact⟨_,x,a,b.b.2 ω⟩
   | last L f c _ _ =>
     obtain⟨x,a,b⟩:=h.wk L f;exact⟨_,x,a,b.b.2 ω⟩
def iv (B:∀W base D gs w f t,kA P ty Wg Qs tag false O K g wst W base D gs w t->
 (∃z b,runT P (crowd gs w f) 0=(.next z,b)/\CO P Post z (t++b))\/
 (∃o G b,runT P (crowd gs w f) 0=(.ended o G,b)/\∀E A,Good P Post (crowd gs E A) o G (t++b))\/
 (∃v,runT P (crowd gs w f) 0=(.next (crowd v w f),#[])/\kA P ty Wg Qs tag true O K g wst W base D v w t)) :
 ∀(f:Option (Nat × Nat)),kA P ty Wg Qs tag blk O K g wst W base D gs w t->CO P Post (crowd gs w f) t:=by
 have I:∀l,Acc nu l->∀blk W base D gs w f t,(List.range' 0 (base+Qs.length)).map (fun i=>(D i).b)=l->kA P ty Wg Qs tag blk O K g wst W base D gs w t->CO P Post (crowd gs w f) t:=by
  intro l y;induction y with
  | intro l _ Q =>
    have m:∀blk W base D gs w f t,(List.range' 0 (base+Qs.length)).map (fun i=>(D i).b)=l->kA P ty Wg Qs tag blk O K g wst W base D gs w t->∀i x,gs[i+1]?=some x->x.status=.running->
     ∃z b,runT P (crowd gs w f) (i+1)=(.next z,b)/\CO P Post z (t++b):=by
     intro blk W base D gs w f t y h i x L F;have C:i<base+Qs.length:=by have:=(yk.1 L).1;rw[h.size] at this;omega
     obtain⟨M,S,v,G,b,r,s,R⟩:=uq h C L F f;refine⟨_,b,r,Q _ ?_ _ _ _ _ _ _ _ _ rfl R⟩;rw[<-y];exact nu.upd (i:=i) ω ω (by simp only[upd_same];exact s) (fun k e=>by rw[upd_ne D _ e])
    have p:∀W base D gs w f t,(List.range' 0 (base+Qs.length)).map (fun i=>(D i).b)=l->kA P ty Wg Qs tag true O K g wst W base D gs w t->CO P Post (crowd gs w f) t:=by
     intro W base D gs w f t y h;obtain⟨i,x,d,u,C,H,q⟩:=crowd_pick h.a1 h.s;cases i with
     |zero=>rw[h.p] at C;cases C;simp at H
     | succ i =>
       obtain⟨z,b,r,s⟩:=m _ _ _ _ _ _ u _ y (h.at d) i x C H;exact .a (q.trans r) s
    intro blk W base D gs w f t y h;cases N:blk with
    |true=>rw[N] at h;apply p;exact y;exact h
    | false =>
      rw[N] at h;obtain⟨i,x,d,u,C,H,q⟩:=crowd_pick h.a1 h.s;cases i with
      | zero =>
        rcases B _ _ _ _ _ u _ (h.at d) with ⟨z,b,r,s⟩|⟨o,G,b,r,s⟩|⟨v,r,s⟩
        ·exact .a (q.trans r) s
        ·exact .b (q.trans r) (s _ _)
        ·exact .a (q.trans r) (by simpa using p _ _ _ _ _ u _ y s)
      | succ i =>
        obtain⟨z,b,r,s⟩:=m _ _ _ _ _ _ u _ y (h.at d) i x C H;exact .a (q.trans r) s
 intro f h;apply I _ (nu.a _);exact rfl;exact h
def aC.b{c:Nat}{b:List bE}{a:nX}{O K:Nat->Prop}{g:Goroutine}{w:World}(h:aC P ty Post c b a O K g w):g.status=.running:=by
 induction h <;> assumption
def kA.a2(h:kA P ty Wg Qs tag false O K g wst W base D gs w t){c:nX}{G:Nat->Prop}(s:g'.status=.running)
 (m:∀b,b<w.heap.size->¬O b->¬W b->w'.heap[b]?=w.heap[b]?) (i:w.heap.size<=w') (B:w'.eo=w.eo) (p:tag≠.free->WgLive ty Wg w->WgLive ty Wg w')
 (z:∀b,G b->O b\/(w.heap.size<=b/\b<w'.heap.size)) (F:I6 0 G K W w'.heap.size (MemOp.ofEvents 0 g.frame.fn g.frame.place es))
 (A:deafBehind tag.b es=c.b) (l:c=.free↔tag=.free) (o:MD ty Wg (base+Qs.length) D w' c false) (u:Qs.length+c.a<2147483648) :
 kA P ty Wg Qs c false G K g' w' W base D ((gs.map (woken P g g' w')).setIfInBounds 0 g') w' (t++MemOp.ofEvents 0 g.frame.fn g.frame.place es):=by
 have S:=h.b;refine⟨get_map_set_same _ _ _ (by rw[h.size];omega),s,ς,.c _ _ _ _,by simp[h.size],fun k f=>?_,fun k E n=>?_,h.n,h.qs,fun e=>h.k (l.1 e),fun e=>h.y fun N=>e (l.2 N),?_,h.z.s S i (fun b a=>ν) F,?_,fun k f=>?_,fun k E n I=>?_,h.q,o,u⟩
 ·obtain⟨y,L,v⟩:=h.wk k f;refine⟨y,?_,v⟩;rw[get_map_set _ _ _ _ ω,L,yp];unfold woken;split
  ·rw[again_running w' v.b.1]
  ·rfl
 ·refine(h.rely k E n).e ⟨fun b a=>m b (S.d k n b a) (fun x=>?_) (fun H=>?_),i,B,p fun e=>by have:=h.k e;grind⟩
  ·exact a.elim (S.e k n b x).1 (S.e k n b x).2
  ·exact a.elim (S.c k n b H).1 (S.c k n b H).2
 ·refine⟨fun b a=>?_,fun k f b a=>yg (S.d k f b a) i,fun b a f=>?_,fun b a=>⟨fun x=>?_,(S.f b a).2⟩,S.c,fun k f b a=>?_,S.h,S.l,S.m⟩
  ·rcases a with a|a
   ·rcases z b a with d|⟨_,d⟩
    ·exact yg (S.a b (.inl d)) i
    omega
   ·exact yg (S.a b (.inr a)) i
  ·rcases z b a with d|⟨d,_⟩
   ·exact S.ok b d f
   ·exact absurd (S.a b (.inr (.inl f))) (xl.2 d)
  ·rcases z b x with d|⟨d,_⟩
   ·exact(S.f b a).1 d
   ·exact absurd (S.a b (.inr (.inr a))) (xl.2 d)
  ·rcases z b a with d|⟨d,_⟩
   ·exact S.e k f b d
   ·exact⟨fun C=>absurd (S.d k f b (.inl C)) (xl.2 d),fun C=>absurd (S.d k f b (.inr C)) (xl.2 d)⟩
 ·rw[Deaf_own,h.h];omega
 ·rw[Deaf_other t ω _ g_of_ofEvents];exact h.f k f
 ·obtain⟨r,M⟩:=h.rel k E n I;exact⟨r,M.b g_of_ofEvents ω⟩
def kA.e(h:kA P ty Wg Qs tag false O K g wst W base D gs w t){a:nX}(k:g'.status=.running)(m:tag≠.free)(l:a≠.free)
 (n:Aside Wg w w') (q:WgLive ty Wg w') (o:∀e∈es,Bk Wg e) (c:deafBehind tag.b es=a.b) (d:MD ty Wg (base+Qs.length) D w' a false) (i:Qs.length+a.a<2147483648) :
 kA P ty Wg Qs a false O K g' w' W base D ((gs.map (woken P g g' w')).setIfInBounds 0 g') w' (t++MemOp.ofEvents 0 g.frame.fn g.frame.place es):=
 have f:=h.y m;h.a2 k (fun b _ _ p=>n.block b fun e=>p (e▸f)) (by rw[n.size];omega) (Go.Pm.oV n.os n.output) (fun _ _=>q) (fun b p=>.inl p)
  (C7 f (by rw[n.size];exact h.b.a Wg (.inr (.inr f))) o) c ⟨fun e=>absurd e l,fun e=>absurd e m⟩ d i
def LR:∀e∈#[mk .disable],Bk Wg e:=by intro e a;simp at a;subst a;exact .inl rfl
def LS:∀e∈#[mk .enable],Bk Wg e:=by intro e a;simp at a;subst a;exact .inr (.inl rfl)
def Lk:∀e∈#[rd (stA Wg)],Bk Wg e:=by intro e a;simp at a;subst a;exact .inr (.inr ⟨_,_,rfl,rfl⟩)
def Ky:∀e∈#[rd (stA Wg),wr (stA Wg)],Bk Wg e:=by intro e a;simp at a;rcases a with rfl|rfl <;> exact .inr (.inr ⟨_,_,rfl,rfl⟩)
def LZ:∀e∈semEvents (smA Wg),Bk Wg e:=by
 intro e a;simp[semEvents] at a;rcases a with rfl|rfl|rfl|rfl
 ·exact .inl rfl
 ·exact .inr (.inr ⟨_,_,rfl,rfl⟩)
 ·exact .inr (.inr ⟨_,_,rfl,rfl⟩)
 ·exact .inr (.inl rfl)
def MD.a(h:MD ty Wg j D w tag blk)(c:tag.open):ij j D/\(∀b,tag=.an b->Vc j D<=b)/\(∀a,tag=.w2 a->Vc j D<=a/\1<=a)/\WgAt ty Wg w (((Vc j D+tag.a:Nat):Int) * KK) 0:=by
 cases h with
 |opn _ i f e k=>grind
 |fin d=>cases tag <;> first|exact d.elim|exact c.elim
 |_=>exact c.elim
def MD.b(h:MD ty Wg j D w tag blk)(a:tag.fin):dK j D/\WgAt ty Wg w 0 0:=by
 cases h with
 |fin _ d c=>grind
 |opn b=>cases tag <;> first|exact b.elim|exact a.elim
 |_=>exact a.elim
def kA.a3(h:kA P ty Wg Qs .go false O K g wst W base D gs w t){Q:bE}{p R:Nat->Prop}{T:dD}{o:Goroutine}(F:g'.status=.running)(a0:Qs.length<2147483647)
 (A:∀b,p b->O b) (I:∀b,R b->O b\/K b) (a1:∀b,p b->¬R b) (hc:Wk P ty Wg Q R T 7 0 p o w) {x y:MemOp} (U:x.g=0/\x.act=.go (base+Qs.length+1)) (V:y.g=base+Qs.length+1/\y.act=.start) :
 kA P ty Wg (Qs++[Q]) .sp false (fun b=>O b/\¬p b/\¬R b) (fun b=>K b\/R b) g' w W base (upd D (base+Qs.length) ⟨7,0,p,R,Q,w,T⟩) ((gs.setIfInBounds 0 g').push o) w (t++#[x,y]):=by
 have S:=h.b;have C:base+(Qs++[Q]).length=base+Qs.length+1:=by simp;omega
 have a2:(gs.setIfInBounds 0 g').size=base+Qs.length+1:=by simp[h.size]
 obtain⟨N,_,_,Y⟩:=h.c.a trivial;have s:∀G∈#[x,y],G.act≠.mark .disable/\G.act≠.mark .enable:=by
  intro G L
  ·grind
 have m:∀k,k<base+Qs.length->upd D (base+Qs.length) ⟨7,0,p,R,Q,w,T⟩ k=D k:=fun k i=>upd_ne D _ ω;rw[<-C] at U V;refine⟨?_,F,ς,.c _ _ _ _,ν,fun k i=>?_,fun k H Z=>?_,fun k i=>?_,fun k i=>?_,fun e=>(by cases e),fun _=>h.y ς,?_,?_,?_,fun k i=>?_,fun k H Z v=>?_,fun k H Z v=>?_,?_,by simp[nX.a];omega⟩
 ·grind
 ·by_cases e:k=base+Qs.length
  ·subst e;rw[upd_same];grind
  ·obtain⟨z,hz,B⟩:=h.wk k ω;grind
 ·by_cases e:k=base+Qs.length
  ·subst e;rw[upd_same];exact .c _ _ _ _
  ·rw[m k ω];exact h.rely k H ω
 ·rw[m k ω];exact h.n k i
 ·by_cases e:k=Qs.length
  ·subst e;rw[upd_same];simp
  ·have B:k<Qs.length:=by simp at i;omega
   rw[m _ ω,y7 B];exact h.qs k B
 ·have d:∀k b,(upd D (base+Qs.length) ⟨7,0,p,R,Q,w,T⟩ k).e b->(k≠base+Qs.length/\(D k).e b)\/(k=base+Qs.length/\p b):=fun k b a=>by
   by_cases e:k=base+Qs.length
   ·subst e;rw[upd_same] at a;grind
   ·rw[upd_ne D _ e] at a;grind
  have n:∀k b,(upd D (base+Qs.length) ⟨7,0,p,R,Q,w,T⟩ k).h b->(k≠base+Qs.length/\(D k).h b)\/(k=base+Qs.length/\R b):=fun k b a=>by
   by_cases e:k=base+Qs.length
   ·subst e;rw[upd_same] at a;grind
   ·rw[upd_ne D _ e] at a;grind
  have E:=fun b a=>(I b a).elim (fun x=>S.a b (.inl x)) fun x=>S.a b (.inr (.inl x));have M:=fun b a X=>(I b X).elim (S.f b a).1 (S.f b a).2;rw[C];refine⟨fun b a=>?_,fun k i b a=>?_,fun b a i=>?_,fun b a=>⟨fun N=>(S.f b a).1 N.1,fun i=>i.elim (S.f b a).2 (M b a)⟩,fun k i b a=>⟨fun c=>?_,fun c=>?_⟩,fun k i b a=>⟨fun c=>?_,fun c=>?_⟩,fun k i b a c=>?_,fun k l i hl s b c f=>?_,fun k l i hl b c f=>?_⟩
  ·rcases a with a|a|a
   ·exact S.a b (.inl a.1)
   ·exact a.elim (fun x=>S.a b (.inr (.inl x))) (E b)
   ·exact S.a b (.inr (.inr a))
  ·rcases a with a|a
   ·rcases d k b a with ⟨e,a⟩|⟨_,a⟩
    ·exact S.d k ω b (.inl a)
    ·exact S.a b (.inl (A b a))
   ·rcases n k b a with ⟨e,a⟩|⟨_,a⟩
    ·exact S.d k ω b (.inr a)
    grind
  ·exact i.elim (S.ok b a.1) a.2.2
  ·rcases d k b c with ⟨e,c⟩|⟨_,c⟩
   ·exact(S.c k ω b a).1 c
   ·exact(S.f b a).1 (A b c)
  ·rcases n k b c with ⟨e,c⟩|⟨_,c⟩
   ·exact(S.c k ω b a).2 c
   grind
  ·rcases d k b c with ⟨e,c⟩|⟨_,c⟩
   ·exact(S.e k ω b a.1).1 c
   grind
  ·rcases n k b c with ⟨e,c⟩|⟨_,c⟩
   ·exact(S.e k ω b a.1).2 c
   grind
  ·rcases d k b c with ⟨e,c⟩|⟨_,c⟩
   ·rcases a with a|a
    ·exact S.h k ω b a c
    ·exact(I b a).elim (fun x=>(S.e k ω b x).1 c) fun x=>S.h k ω b x c
   ·rcases a with a|a
    ·exact S.ok b (A b c) a
    grind
  ·rcases d k b c with ⟨e,c⟩|⟨e,c⟩
   ·rcases d l b f with ⟨u,f⟩|⟨u,f⟩
    ·exact S.l k l ω ω s b c f
    ·exact(S.e k ω b (A b f)).1 c
   ·rcases d l b f with ⟨u,f⟩|⟨u,f⟩
    ·exact(S.e l ω b (A b c)).1 f
    ·omega
  ·rcases d k b c with ⟨e,c⟩|⟨e,c⟩
   ·rcases n l b f with ⟨u,f⟩|⟨u,f⟩
    ·exact S.m k l ω ω b c f
    ·exact(I b f).elim (fun x=>(S.e k ω b x).1 c) fun x=>S.h k ω b x c
   ·rcases n l b f with ⟨u,f⟩|⟨u,f⟩
    ·exact(S.e l ω b (A b c)).2 f
    grind
 ·rw[C];rw[C] at U V;exact h.z.v ω U V h.h A I (by simp only[upd_same]) (by simp only[upd_same]) (fun k e=>by simp only[upd_ne D _ e]) (fun k e=>by simp only[upd_ne D _ e])
 ·rw[ConcN.Deaf_still t 0 _ s];exact h.h
 ·rw[ConcN.Deaf_still t _ _ s];by_cases e:k=base+Qs.length
  ·subst e;rw[upd_same];exact h.z.b _ ω
  ·rw[m k ω];exact h.f k ω
 ·by_cases e:k=base+Qs.length
  ·subst e;rw[upd_same] at v;grind
  ·rw[m k ω] at v;obtain⟨r,X⟩:=h.rel k H ω v;refine⟨r,?_⟩;have u:t++#[x,y]=(t++#[x])++#[y]:=by apply Array.ext';simp
   rw[u];exact(X.b (g:=0) (fun G L=>by grind) ω).b (g:=base+(Qs++[Q]).length) (fun G L=>by grind) ω
 ·by_cases e:k=base+Qs.length
  ·subst e;rw[upd_same] at v;simp at v
  ·rw[m k ω] at v ⊢;exact h.q k H ω v
 ·have eV:Vc (base+Qs.length+1) (upd D (base+Qs.length) ⟨7,0,p,R,Q,w,T⟩)=Vc (base+Qs.length) D+1:=by
   simp only[Vc,sumTo,upd_same];rw[sumTo_upd_out D _ oM (yb _)];rfl
  rw[C];refine .opn trivial (fun k i=>?_) ς ς (by rw[eV];exact Y);by_cases e:k=base+Qs.length
  ·subst e;rw[upd_same];simp
  ·rw[m k ω];exact N k ω
def kA.a0(h:kA P ty Wg Qs .aq false O K g wst W base D gs w t)(m:g'.status=.running) :
 kA P ty Wg [] .free false (fun b=>O b\/∃i,i<Qs.length/\(D (base+i)).e b) K g' w W (base+Qs.length) (fun i=>{ D i with e:=fun _=>False,h:=fun _=>False }) ((gs.map (woken P g g' w)).setIfInBounds 0 g') w
  (t++MemOp.ofEvents 0 g.frame.fn g.frame.place #[Go.ConcR.mk (.acquire (stA Wg))]):=by
 have S:=h.b;obtain⟨p,B⟩:=h.c.b trivial;have r:=h.y ς;have u:MemOp.ofEvents 0 g.frame.fn g.frame.place #[Go.ConcR.mk (.acquire (stA Wg))]=#[{ g:=0,fn:=g.frame.fn,pos:=g.frame.place,act:=.mark (.acquire (stA Wg)) }]:=by rw[ofEvents_eq];simp[ofEvent_mk]
 refine⟨get_map_set_same _ _ _ (by rw[h.size];omega),m,ς,.c _ _ _ _,by simp[h.size],fun k c=>?_,fun k q d=>by simp at d;omega,fun k c=>p k ω,fun k c=>ν,fun _=>rfl,fun e=>absurd rfl e,?_,?_,?_,fun k c=>?_,fun k q d=>ν,fun k q d=>by simp at d;omega,.free fun k c=>p k ω,by simp[nX.a]⟩
 ·obtain⟨y,A,o⟩:=h.wk k ω;have f:=p k ω;refine⟨y,?_,?_⟩
  ·rw[get_map_set _ _ _ _ ω,A,yp];unfold woken;split
   ·rw[again_running w o.b.1]
   ·rfl
  ·have:=o.e f ty Wg (D k).q (fun _=>False) (fun _=>False) (D k).f;rw[f];exact this
 ·refine⟨fun b a=>?_,fun k c b a=>ν,fun b a c=>?_,fun b a=>⟨fun n=>?_,(S.f b a).2⟩,fun k c b a=>⟨id,id⟩,fun k c b a=>⟨id,id⟩,fun k c b a=>id,fun k l c z x b a=>a.elim,fun k l c z b a=>a.elim⟩
  ·rcases a with (a|⟨i,s,a⟩)|a
   ·exact S.a b (.inl a)
   ·exact S.d _ ω b (.inl a)
   ·exact S.a b (.inr a)
  ·rcases a with a|⟨i,s,a⟩
   ·exact S.ok b a c
   ·exact S.h _ ω b c a
  ·rcases n with n|⟨i,s,n⟩
   ·exact(S.f b a).1 n
   ·exact(S.c _ ω b a).1 n
 ·rw[u];refine h.z.p (fun k q d=>h.rel k q d (by rw[p k d];omega)) h.h ⟨rfl,rfl⟩ (S.a Wg (.inr (.inr r))) (fun b a v=>?_) (fun _ _=>id) (fun _ _=>id);rcases a with a|⟨i,s,a⟩
  ·exact(S.f b v).1 a
  ·exact(S.c _ ω b v).1 a
 ·rw[Deaf_own,h.h];rfl
 ·rw[Deaf_other t ω _ g_of_ofEvents];exact h.f k ω
def kA.enter{d:Nat}(h:kA P ty d [] .free blk O K g wst W base D gs w t)(i:O Wg)(s:WgAt ty Wg wst 0 0):kA P ty Wg [] .sp blk (fun b=>O b/\b≠Wg) K g wst (fun b=>W b\/b=Wg) base D gs w t:=by
 have S:=h.b;have l:WgAt ty Wg w 0 0:=(h.a.a Wg (.inl i)).trans s;have n:dK (base+0) D:=by
  have:=h.c;cases this with
  |free n=>exact n
  |opn f=>exact f.elim
  |fin f=>exact f.elim
 have v:blk=false:=by
  have:=h.c;cases this <;> rfl
 have u:Vc (base+0) D=0:=by have:=ue (base+0) base ω h.n;omega
 have p:=h.z;refine⟨h.p,h.u,h.v,⟨fun b a=>h.a.a b ν,h.a.size,h.a.f,fun _ _=>⟨0,0,l⟩⟩,h.size,fun k c=>?_,fun k q m=>by simp at m;omega,h.n,h.qs,fun e=>(by cases e),fun _=>.inr rfl,?_,?_,h.h,h.f,fun k q m=>ν,fun k q m=>by simp at m;omega,?_,by simp[nX.a]⟩
 ·obtain⟨y,r,o⟩:=h.wk k c;have f:=h.n k ω;refine⟨y,r,?_⟩;have:=o.e f ty Wg (D k).q (D k).h (D k).e (D k).f;rw[f];exact this
 ·refine⟨fun b a=>?_,S.d,fun b a=>S.ok b a.1,fun b a=>⟨fun x=>?_,fun x=>?_⟩,fun k c b a=>?_,fun k c b a=>S.e k c b a.1,S.h,S.l,S.m⟩
  ·rcases a with a|a|a|rfl
   ·exact S.a b (.inl a.1)
   ·exact S.a b (.inr (.inl a))
   ·exact S.a b (.inr (.inr a))
   ·exact S.a _ (.inl i)
  ·rcases a with a|rfl
   ·exact(S.f b a).1 x.1
   omega
  ·rcases a with a|rfl
   ·exact(S.f b a).2 x
   ·exact S.ok _ i x
  ·rcases a with a|rfl
   ·exact S.c k c b a
   ·exact S.e k c _ i
 ·exact p.enter i
 ·subst v;exact .opn trivial (fun k c=>.inr (.inr (.inr (n k c)))) ς ς (by simp only[yD,u];simpa[nX.a] using l)
end
variable {w:World}
section
variable {P:Program}{ty:TypeId}{Post:Value->World->Prop}{Wg:Nat}{Qs:List bE}{tag:nX}{O K:Nat->Prop}{g:Goroutine}{wst:World}
def kA.d{W:Nat->Prop}{a:Nat}{D:Nat->WS}{b:Array Goroutine}{t:Trace}(h:kA P ty Wg Qs tag false O K g wst W a D b w t):b[0]?=some g:=by simpa using h.p
def C6(h:aC P ty Post Wg Qs tag O K g wst):∀{blk:Bool}{W:Nat->Prop}{base:Nat}{D:Nat->WS}{gs:Array Goroutine}{w:World} (d:Option (Nat × Nat)) {t:Trace},
 kA P ty Wg Qs tag blk O K g wst W base D gs w t->CO P Post (crowd gs w d) t:=by
 induction h with
 | @idle Wg Qs tag O K g wst o j m A =>
   intro blk W base D gs w d t h;refine iv (fun W base D gs w d t h=>.inl ?_) d h;obtain⟨l,w',V,f,F⟩:=j w h.a;have X:=m w l w' V h.a f;have a6:=fun hf=>F.a Wg (h.b.a Wg (.inr (.inr (h.y hf)))) (h.b.f Wg (h.y hf)).1;refine⟨_,_,runT_crowd_go h.d (by simpa using f),A w l w' V h.a f d (h.a2 X.b (fun b G S _=>F.a b G S) F.size F.d (fun hf ⟨st,sm,hl⟩=>⟨st,sm,(a6 hf).trans hl⟩) (fun b B=>B) ?_ ?_ .rfl (h.c.block a6) h.l)⟩
   ·exact oO (fun b B=>B.elim (fun x=>yg (h.b.a b (.inl x)) F.size) fun x=>x.2) (fun b B=>yg (h.b.a b (.inr (.inl B))) F.size) F.c (fun e ⟨hf,a,ha,H⟩=>⟨rfl,a,ha▸h.y hf,ha▸yg (h.b.a Wg (.inr (.inr (h.y hf)))) F.size,H⟩)
   ·refine deafBehind_still (fun e he=>?_) _;rcases F.c e he with H|⟨_,a,_,H|H⟩
    ·exact zG H
    ·grind
    grind
 | @fin Wg O K g wst o j =>
   intro blk W base D gs w d t h;refine iv (fun W base D gs w d t h=>.inr (.inl ?_)) d h;obtain⟨v,V,f,F,e3⟩:=j w h.a;have a5:=h.z.s (u:=MemOp.ofEvents 0 g.frame.fn g.frame.place V) h.b (yb _) (fun b B=>.inl B) (oO (X:=fun _=>False) (fun b B=>h.b.a b (.inl B)) (fun b B=>h.b.a b (.inr (.inl B))) (fun e he=>.inl (F e he)) (fun _ x=>x.elim));have I:dK (base+([]:List bE).length) D:=by
    have:=h.c;cases this with
    |free I=>exact I
    |opn G=>exact G.elim
    |fin G=>exact G.elim
   have a2:∀i x,gs[i]?=some x->i≠0->∃n,QuitsD P n (D (i - 1)).c x/\i - 1<base+([]:List bE).length:=by
    intro i x H a7;obtain⟨k,rfl⟩:∃k,i=k+1:=⟨i - 1,ω⟩;have z:k<base+([]:List bE).length:=by have:=(yk.1 H).1;rw[h.size] at this;omega
    obtain⟨y,hy,hk⟩:=h.wk k z;rw[H] at hy;cases hy;obtain⟨n,X⟩:=hk.h (I k z);exact⟨n,X,z⟩
   refine⟨_,_,_,runT_many_ended (P:=P) (sl:=d) (i:=0) h.d (show stepG P (0 == 0) g w=_ from f),fun c0 b3=>⟨v,rfl,e3,a5.c,fun i l hg a4 hc=>?_,⟨fun x H=>?_,rfl⟩,fun i x H a7=>?_⟩⟩
   ·exact(a5.h i l hg a4 hc).resolve_right fun ⟨k,k1,k2,_⟩=>ν
   ·obtain⟨i,Z⟩:=Kp.1 H;rw[List.getElem?_drop] at Z;obtain⟨n,X,_⟩:=a2 (1+i) x (by simpa[crowd] using Z) ω;exact⟨n,X.leaves⟩
   ·obtain⟨n,X,z⟩:=a2 i x H a7;refine⟨n,?_⟩;have e:(t++MemOp.ofEvents 0 g.frame.fn g.frame.place V).deaf i (t++MemOp.ofEvents 0 g.frame.fn g.frame.place V).size=(D (i - 1)).c:=by
     have:=Deaf_other t (g:=i) (g':=0) ω _ (g_of_ofEvents (fn:=g.frame.fn) (pos:=g.frame.place) (es:=V));have S:=h.f (i - 1) z;rw[show i - 1+1=i by omega] at S;rw[S] at this;exact this
    show x.endsWith P _ n _=some 0;rw[e];exact X.hears _
 | @enter b8 Wg O K g wst hO hW m A =>
   intro blk W base D gs w d t h;exact A d (h.enter hO hW)
 | @kd Wg Qs O K g wst o j m A =>
   intro blk W base D gs w d t h;refine iv (fun W base D gs w d t h=>.inl ?_) d h;obtain⟨l,f⟩:=j w h.a;obtain⟨E,_,_,c⟩:=h.c.a trivial;refine⟨_,_,runT_crowd_go (P:=P) (sl:=d) (i:=0) h.d (by simpa using f),A w l w _ h.a f d (h.e (m w l w _ h.a f).b ς ς (.refl Wg w) ⟨_,_,c⟩ LR rfl (.opn trivial E ς ς c) h.l)⟩
 | @add Wg Qs O K g wst o U j m A =>
   intro blk W base D gs w d t h;refine iv (fun W base D gs w d t h=>.inl ?_) d h;obtain⟨E,_,_,c⟩:=h.c.a trivial;have N:Vc (base+Qs.length) D<=Qs.length:=by have:=ue (D:=D) (base+Qs.length) base ω h.n;omega
   simp only[nX.a,GV] at c;obtain⟨l,f⟩:=j w h.a _ N c;refine⟨_,_,runT_crowd_go (P:=P) (sl:=d) (i:=0) h.d (by simpa using f),A w l _ _ _ h.a N c f d (h.e (m w l _ _ _ h.a N c f).b ς ς (aside_setCell w (stA Wg) _) ⟨_,_,c.setSt _⟩ Ky rfl (.opn trivial E ς ς ?_) (by simp[nX.a];omega))⟩;have:=c.setSt ((((Vc (base+Qs.length) D:Nat):Int)+1) * KK);simpa[nX.a] using this
 | @en Wg Qs O K g wst o j m A =>
   intro blk W base D gs w d t h;refine iv (fun W base D gs w d t h=>.inl ?_) d h;obtain⟨l,f⟩:=j w h.a;obtain⟨E,_,_,c⟩:=h.c.a trivial;refine⟨_,_,runT_crowd_go (P:=P) (sl:=d) (i:=0) h.d (by simpa using f),A w l w _ h.a f d (h.e (m w l w _ h.a f).b ς ς (.refl Wg w) ⟨_,_,c⟩ LS rfl (.opn trivial E ς ς c) h.l)⟩
 | @go Wg Qs O K g wst Q Bs R o U hB hR b6 j hc m A =>
   intro blk W base D gs w d t h;refine iv (fun W base D gs w d t h=>.inl ?_) d h;obtain⟨l,u,f⟩:=j w h.a;obtain⟨T,hT⟩:=hc w l u w _ h.a f;have hr:=runT_crowd_spawn (P:=P) (sl:=d) (i:=0) h.d (by simpa using f);refine⟨_,_,hr,?_⟩;have hI:=h.a3 (m w l u w _ h.a f).b U hB hR b6 hT (x:={ g:=0,fn:=g.frame.fn,pos:=g.frame.place,act:=.go gs.size }) (y:={ g:=gs.size,fn:=u.frame.fn,pos:=g.frame.place,act:=.start }) ⟨rfl,by rw[h.size]⟩ ⟨h.size,rfl⟩;have F:t++((MemOp.ofEvents 0 g.frame.fn g.frame.place #[]).push { g:=0,fn:=g.frame.fn,pos:=g.frame.place,act:=.go gs.size } |>.push { g:=gs.size,fn:=u.frame.fn,pos:=g.frame.place,act:=.start })=t++#[{ g:=0,fn:=g.frame.fn,pos:=g.frame.place,act:=.go gs.size },{ g:=gs.size,fn:=u.frame.fn,pos:=g.frame.place,act:=.start }]:=by
    rw[ofEvents_eq];simp
   rw[F];exact A w l u w _ h.a f d hI
 | @wd Wg Qs O K g wst o j m A =>
   intro blk W base D gs w d t h;refine iv (fun W base D gs w d t h=>.inl ?_) d h;obtain⟨l,f⟩:=j w h.a;obtain⟨E,_,_,c⟩:=h.c.a trivial;have N:Vc (base+Qs.length) D<=Qs.length:=by have:=ue (D:=D) (base+Qs.length) base ω h.n;omega
   refine⟨_,_,runT_crowd_go (P:=P) (sl:=d) (i:=0) h.d (by simpa using f),A w l w _ h.a f d (h.e (m w l w _ h.a f).b ς ς (.refl Wg w) ⟨_,_,c⟩ LR rfl (.opn trivial E (fun b e=>by grind) ς c) h.l)⟩
 | @ld Wg b Qs O K g wst o j h0 G b7 b4 =>
   intro blk W base D gs w d t h;refine iv (fun W base D gs w d t h=>.inl ?_) d h;obtain⟨E,B,_,c⟩:=h.c.a trivial;have N:=B b rfl;simp only[nX.a,GV] at c;obtain⟨l,f⟩:=j w h.a _ N c;rcases Lg (Vc (base+Qs.length) D) with hz|hz
   ·rw[hz] at c;refine⟨_,_,runT_crowd_go (P:=P) (sl:=d) (i:=0) h.d (by simpa using f),b7 w l w _ h.a c f d (h.e (h0 w l w _ h.a c f).b ς ς (.refl Wg w) ⟨_,_,c⟩ Lk rfl (.fin trivial (oL E hz) (by simpa using c)) (by have:=h.l;simpa[nX.a] using this))⟩
   ·refine⟨_,_,runT_crowd_go (P:=P) (sl:=d) (i:=0) h.d (by simpa using f),b4 w l w _ _ h.a hz N c f d (h.e (G w l w _ _ h.a hz N c f).b ς ς (.refl Wg w) ⟨_,_,c⟩ Lk rfl (.opn trivial E ς (fun vs e=>by grind) (by simpa[nX.a] using c)) (by have:=h.l;simpa[nX.a] using this))⟩
 | @cas Wg vs Qs O K g wst o b0 Y h3 ha b9 b1 =>
   intro blk W base D gs w d t h;refine iv (fun W base D gs w d t h=>.inl ?_) d h;obtain⟨E,_,b2,c⟩:=h.c.a trivial;obtain⟨N,c2⟩:=b2 vs rfl;simp only[nX.a,GV] at c;have M:=h.l;simp only[nX.a,GV] at M;rcases Fs (Vc (base+Qs.length) D) vs with z|c1
   ·obtain⟨l,f⟩:=Y w h.a _ z c;refine⟨_,_,runT_crowd_go (P:=P) (sl:=d) (i:=0) h.d (by simpa using f),b1 w l w _ _ h.a z c f d (h.e (ha w l w _ _ h.a z c f).b ς ς (.refl Wg w) ⟨_,_,c⟩ Lk rfl (.opn trivial E (fun b e=>by grind) ς (by simpa[nX.a] using c)) (by simpa[nX.a] using M))⟩
   ·have e:Vc (base+Qs.length) D=vs:=ω;rw[e] at c;obtain⟨l,f⟩:=b0 w h.a c;refine⟨_,_,runT_crowd_go (P:=P) (sl:=d) (i:=0) h.d (by simpa using f),b9 w l _ _ h.a c f d (h.e (h3 w l _ _ h.a c f).b ς ς (aside_setCell w (stA Wg) _) ⟨_,_,c.setSt _⟩ Ky rfl (.reg E ω (by rw[e];exact c.setSt _)) (by simpa[nX.a] using M))⟩
 | @sem Wg Qs O K g wst o a1 hblk j m A =>
   intro blk W base D gs w d t h;refine iv (fun W base D gs w d t h=>?_) d h;have C:∀st,WgAt ty Wg w st 0->MD ty Wg (base+Qs.length) D w .w3 true->∃a0,runT P (crowd gs w d) 0=(.next (crowd a0 w d),#[])/\kA P ty Wg Qs .w3 true O K g wst W base D a0 w t:=by
    intro st c hm;have f:=hblk w h.a st c;have hr:=runT_crowd_go (P:=P) (sl:=d) (i:=0) h.d (by simpa using f);have F:MemOp.ofEvents 0 g.frame.fn g.frame.place #[]=#[]:=by rw[ofEvents_eq];simp
    rw[F] at hr;refine⟨_,hr,⟨?_,h.u,fun _=>a1,h.a,by simp[h.size],fun k hk=>?_,h.rely,h.n,h.qs,h.k,h.y,h.b,h.z,h.h,h.f,h.rel,h.q,hm,h.l⟩⟩
    ·rw[get_map_set_same _ _ _ (by rw[h.size];omega)];rfl
    ·obtain⟨y,hy,b5⟩:=h.wk k hk;refine⟨y,?_,b5⟩;rw[get_map_set _ _ _ _ ω,hy,yp];unfold woken;simp
   have hm:=h.c;cases hm with
   |opn G=>exact G.elim
   |fin G=>exact G.elim
   |reg G S h3=>exact .inr (.inr (C _ h3 (.reg G S h3)))
   |last L G S h3 h4=>exact .inr (.inr (C _ h4 (.last L G S h3 h4)))
   | sema I c =>
     obtain⟨l,f⟩:=j w h.a c;exact .inl ⟨_,_,runT_crowd_go (P:=P) (sl:=d) (i:=0) h.d (by simpa using f),A w l _ _ h.a c f d (h.e (m w l _ _ h.a c f).b ς ς (aside_setCell w (smA Wg) _) ⟨_,_,c.setSm _⟩ LZ (by simp[deafBehind,semEvents,nX.b]) (.fin trivial I (by simpa using c.setSm 0)) h.l)⟩
 | @l4 Wg Qs O K g wst o j m A =>
   intro blk W base D gs w d t h;refine iv (fun W base D gs w d t h=>.inl ?_) d h;obtain⟨I,c⟩:=h.c.b trivial;obtain⟨l,f⟩:=j w h.a c;exact⟨_,_,runT_crowd_go (P:=P) (sl:=d) (i:=0) h.d (by simpa using f),A w l _ _ h.a c f d (h.e (m w l _ _ h.a c f).b ς ς (.refl Wg w) ⟨_,_,c⟩ Lk rfl (.fin trivial I c) h.l)⟩
 | @ke Wg Qs O K g wst o j m A =>
   intro blk W base D gs w d t h;refine iv (fun W base D gs w d t h=>.inl ?_) d h;obtain⟨I,c⟩:=h.c.b trivial;obtain⟨l,f⟩:=j w h.a;exact⟨_,_,runT_crowd_go (P:=P) (sl:=d) (i:=0) h.d (by simpa using f),A w l _ _ h.a f d (h.e (m w l _ _ h.a f).b ς ς (.refl Wg w) ⟨_,_,c⟩ LS rfl (.fin trivial I c) h.l)⟩
 | @aq Wg Qs O K g wst o j m A =>
   intro blk W base D gs w d t h;refine iv (fun W base D gs w d t h=>.inl ?_) d h;obtain⟨I,c⟩:=h.c.b trivial;obtain⟨l,f⟩:=j w h.a;have hQ:∀(i:Nat) (Q:bE),Qs[i]?=some Q->Q ((D (base+i)).e) w:=fun i Q Z=>by
    have z:i<Qs.length:=(ym.1 Z).1;have:=h.qs i z;rw[Z] at this;injection this with this;rw[this];exact h.q _ ω ω (by rw[I _ ω];omega) w (h.rely _ ω ω)
   have hD:∀i,i<Qs.length->∀b,(D (base+i)).e b->¬O b/\¬K b/\b<w.heap.size:=fun i Z b B=>
    ⟨fun E=>(h.b.e _ ω b E).1 B,fun hk=>h.b.h _ ω b hk B,h.b.d _ ω b (.inl B)⟩
   have a3:∀i k,i<Qs.length->k<Qs.length->i≠k->∀b,(D (base+i)).e b->¬(D (base+k)).e b:=fun i k Z hk a4 b B=>h.b.l _ _ ω ω ω b B;exact⟨_,_,runT_crowd_go (P:=P) (sl:=d) (i:=0) h.d (by simpa using f),A w l w _ (fun i=>(D (base+i)).e) h.a hQ hD a3 f d (h.a0 (m w l w _ (fun i=>(D (base+i)).e) h.a hQ hD a3 f).b)⟩
def xq{O K:Nat->Prop}{a:Goroutine}(h:aC P ty Post 0 [] .free O K a w)(t:∀b,O b->b<w.heap.size)(u:∀b,K b->b<w.heap.size)(n:∀b,O b->¬K b):CO P Post (solo a w) #[]:=by
 have c:∀(i:Nat) (x:Touch),touchAt #[] i=some x->False:=fun i x f=>by simp[touchAt,Trace.act?] at f
 have p:∀k,Deaf #[] k=0:=fun k=>rfl;refine C6 h (blk:=false) (W:=fun _=>False) (base:=0) (D:=fun _=>⟨1,0,fun _=>False,fun _=>False,fun _ _=>True,w,.leaf⟩) none ?_;refine⟨rfl,h.b,ς,.c _ _ _ _,rfl,fun i d=>ν,fun i _ d=>by simp at d,fun i d=>ω,fun i d=>ν,fun _=>rfl,fun e=>absurd rfl e,?_,?_,rfl,fun i d=>ν,fun i _ d=>ν,fun i _ d=>by simp at d,.free fun i d=>ς,by simp[nX.a]⟩
 ·exact⟨fun b o=>ν,fun i d=>ς,n,fun b o=>o.elim,fun i d=>ς,fun i d=>ς,fun i d=>ς,fun i k d=>ς,fun i k d=>ς⟩
 ·exact⟨fun j=>Go.ConcN.noRace_nil j,fun q m=>by simp at m,fun l _ i x f _=>(c i x f).elim,fun l _ i x f _ _=>(c i x f).elim,fun i d=>by simp at d,fun i d=>by simp at d,fun i x f _ _=>(c i x f).elim,fun k _ s=>by simp at s,fun i x f _=>(c i x f).elim,fun i g r=>by simp[Trace.g?] at r,fun k _=>p k,fun q m=>ν⟩
end
open Go.ConcR (DC0)
variable {wL:World}{n:Nat}
def RO(ty:TypeId)(Wg:Nat)(w wL:World):Prop:=WgLive ty Wg w->WgLive ty Wg wL
def aa{a:TypeId}{b:Nat}{w:World}(h:WgLive a b w)(r:RO a b w wL):WgLive a b wL:=r h
def RT(_ _:World):Prop:=True
def RO.a(a:TypeId)(b:Nat)(w:World):RO a b w w:=id
section
variable (P:Program)(ty:TypeId)(Wg:Nat)(Fin:Goroutine->World->Prop)
def BE(g:Goroutine)(w:World):Prop:=g.status=.running/\∃g',stepG P true g w=.go g' w #[mk .enable]/\∃m,Goes P true (RO ty Wg) DC0 Fin m g' w
def BR(g:Goroutine)(w:World):Prop:=g.status=.running/\∃g',stepG P true g w=.go g' w #[mk (.read (smA Wg))]/\∃m,Goes P true (RO ty Wg) DC0 (BE P ty Wg Fin) m g' w
def BA(g:Goroutine)(w:World):Prop:=g.status=.running/\∀v:Nat,v<2147483647->WgAt ty Wg w (v * KK) 0->
 ∃ g', stepG P true g w = .go g' (w.setCell (stA Wg) (.int .u64 ((v + 1) * KK))) #[rd (stA Wg), wr (stA Wg)] /\
   (v=0->∃m,Goes P true (RO ty Wg) DC0 (BR P ty Wg Fin) m g' (w.setCell (stA Wg) (.int .u64 ((v+1) * KK))))/\(v≠0->∃m,Goes P true (RO ty Wg) DC0 (BE P ty Wg Fin) m g' (w.setCell (stA Wg) (.int .u64 ((v+1) * KK))))
def BD(g:Goroutine)(w:World):Prop:=g.status=.running/\∃g',stepG P true g w=.go g' w #[mk .disable]/\∃m,Goes P true (RO ty Wg) DC0 (BA P ty Wg Fin) m g' w
def CA(g:Goroutine)(w:World):Prop:=g.status=.running/\∃g',stepG P true g w=.go g' w #[mk (.acquire (stA Wg))]/\∃m,Goes P true RT DC0 Fin m g' w
def CE(g:Goroutine)(w:World):Prop:=g.status=.running/\∃g',stepG P true g w=.go g' w #[mk .enable]/\∃m,Goes P true (RO ty Wg) DC0 (CA P Wg Fin) m g' w
def C4(g:Goroutine)(w:World):Prop:=g.status=.running/\(WgAt ty Wg w 0 0->∃g',stepG P true g w=.go g' w #[rd (stA Wg)]/\∃m,Goes P true (RO ty Wg) DC0 (CE P ty Wg Fin) m g' w)
def C3(g:Goroutine)(w:World):Prop:=g.status=.running/\g.offers=none/\(∀st,WgAt ty Wg w st 0->stepG P true g w=.go { g with status:=.blocked } w #[])/\
 (WgAt ty Wg w 0 1->∃g',stepG P true g w=.go g' (w.setCell (smA Wg) (.int .u32 0)) (semEvents (smA Wg))/\∃m,Goes P true (RO ty Wg) DC0 (C4 P ty Wg Fin) m g' (w.setCell (smA Wg) (.int .u32 0)))
def CW(g:Goroutine)(w:World):Prop:=g.status=.running/\∃g',stepG P true g w=.go g' w #[mk (.write (smA Wg))]/\∃m,Goes P true (RO ty Wg) DC0 (C3 P ty Wg Fin) m g' w
variable (Anch:Goroutine->World->Prop)
def C2(vs:Nat)(g:Goroutine)(w:World):Prop:=g.status=.running/\∀v:Nat,v<2147483648->WgAt ty Wg w (v * KK) 0->
 (v=vs->∃g',stepG P true g w=.go g' (w.setCell (stA Wg) (.int .u64 (v * KK+1))) #[rd (stA Wg),wr (stA Wg)]/\∃m,Goes P true (RO ty Wg) DC0 (CW P ty Wg Fin) m g' (w.setCell (stA Wg) (.int .u64 (v * KK+1))))/\
 (v≠vs->∃g',stepG P true g w=.go g' w #[rd (stA Wg)]/\∃m,Goes P true (RO ty Wg) DC0 Anch m g' w)
def C1(g:Goroutine)(w:World):Prop:=g.status=.running/\∀v:Nat,v<2147483648->WgAt ty Wg w (v * KK) 0->∃g',stepG P true g w=.go g' w #[rd (stA Wg)]/\
 (v=0->∃m,Goes P true (RO ty Wg) DC0 (CE P ty Wg Fin) m g' w)/\(v≠0->∃m,Goes P true (RO ty Wg) DC0 (C2 P ty Wg Fin Anch v) m g' w)
def CD(g:Goroutine)(w:World):Prop:=g.status=.running/\∃g',stepG P true g w=.go g' w #[mk .disable]/\∃m,Goes P true (RO ty Wg) DC0 Anch m g' w
end
section
variable {P:Program}{ty:TypeId}{Post:Value->World->Prop}{Wg:Nat}{Qs:List bE}{tag:nX}{O K:Nat->Prop}{g:Goroutine}{w:World}{Fin Anch:Goroutine->World->Prop}
def aZ{O K:Nat->Prop}{a:nX}(b:a≠.free){w:World}(h:Rely O K (Al ty Wg a) w wL):RO ty Wg w wL:=fun c=>h.d (fun _=>c) b
def qq(O K:Nat->Prop)(J:World->Prop):Prop:=∀w wL:World,(∀b,O b\/K b->wL.heap[b]?=w.heap[b]?)->w.heap.size<=wL->wL.eo=w.eo->J w->J wL
def qq.rely{O K:Nat->Prop}{J:World->Prop}{A:World->Prop}(h:qq O K J){w:World}(a:Rely O K A w wL)(b:J w):J wL:=h w wL a.a a.size a.f b
def qq.a{O K:Nat->Prop}{J:World->Prop}(h:qq O K J)(c:¬(O Wg\/K Wg)){w:World}(a:Aside Wg w wL)(f:J w):J wL:=h w wL (fun b d=>a.block b fun e=>c (e▸d)) (by rw[a.size];omega) (Go.Pm.oV a.os a.output) f
def aC.a{R:World->World->Prop}{S:Goroutine->World->Prop}{J:World->Prop}(m:qq O K J)(i:∀w a,Rely O K (Al ty Wg tag) w a->R w a)(k:∀g w,J w->(∀a,R w a->S g a)->aC P ty Post Wg Qs tag O K g w) :
 ∀(n:Nat) {g:Goroutine}{w:World},J w->Goes P true R DC0 S n g w->aC P ty Post Wg Qs tag O K g w:=by
 intro n;induction n with
 |zero=>intro g w d h;exact k g w d h
 | succ n p =>
   intro g w d h;rcases h with h|⟨c,h⟩
   ·exact k g w d h
   ·refine .idle c (fun a b=>?_) fun a f j q b l=>?_
    ·have:=h a (i _ _ b);cases e:stepG P true g a with
     | go f j q =>
       rw[e,goes_go] at this;obtain⟨⟨rfl,rfl⟩,_⟩:=this;exact⟨f,j,#[],rfl,Go.Pm.cN ς⟩
     |_=>rw[e] at this;exact this.elim
    ·have:=h a (i _ _ b);rw[l,goes_go] at this;obtain⟨⟨rfl,_⟩,o⟩:=this;rw[Go.Pm.bH O rfl];exact p (m.rely b d) o
def aF{g d:Goroutine}{w c:World}{b a:Array Event}(h:GStep.go g w b=GStep.go d c a):g=d/\w=c/\b=a:=ν
def ri{m:Mark}{J:World->Prop}(l:qq O K J)(j:tag≠.free)(p:m=.read (smA Wg)\/m=.write (smA Wg))(f:g.status=.running)(k:J w)(h:∀a,J a->RO ty Wg w a->∃d,stepG P true g a=.go d a #[mk m]/\aC P ty Post Wg Qs tag O K d a):aC P ty Post Wg Qs tag O K g w:=by
 refine .idle f (fun a b=>?_) fun a d s r b c=>?_
 ·obtain⟨d,i,_⟩:=h a (l.rely b k) (aZ j b);refine⟨d,a,_,i,Go.Pm.cN fun e c=>.inr ⟨j,smA Wg,rfl,?_⟩⟩;simp at c;subst c;rcases p with rfl|rfl
  ·exact .inl rfl
  ·exact .inr rfl
 ·obtain⟨q,i,o⟩:=h a (l.rely b k) (aZ j b);rw[i] at c;obtain⟨rfl,rfl,_⟩:=aF c;rw[Go.Pm.bH O rfl];exact o
section
variable {J:World->Prop}
def C5(f:qq O K J)(y:¬(O Wg\/K Wg))(r:Qs.length<2147483647)(k:∀g w,J w->(∀a,RO ty Wg w a->Fin g a)->aC P ty Post Wg Qs .go O K g w)(e:J w)(h:Goes P true (RO ty Wg) DC0 (BD P ty Wg Fin) n g w):aC P ty Post Wg Qs .sp O K g w:=by
 refine aC.a f (fun _ _=>aZ ς) (fun g w e c=>?_) n e h;have u:∀g w,J w->(∀a,RO ty Wg w a->BE P ty Wg Fin g a)->aC P ty Post Wg Qs .ae O K g w:=fun g w e c=>by
  refine .en (c w (.a ty Wg w)).1 (fun a b=>?_) fun a i t x b l=>?_
  ·obtain⟨_,i,d,_⟩:=c a (aZ ς b);exact⟨i,d⟩
  ·obtain⟨_,o,d,m,j⟩:=c a (aZ ς b);rw[d] at l;obtain⟨rfl,rfl,_⟩:=aF l;exact aC.a f (fun _ _=>aZ ς) k m (f.rely b e) j
 refine .kd (c w (.a ty Wg w)).1 (fun a b=>?_) fun a i t x b l=>?_
 ·obtain⟨_,i,d,_⟩:=c a (aZ ς b);exact⟨i,d⟩
 ·obtain⟨_,o,d,m,j⟩:=c a (aZ ς b);rw[d] at l;obtain⟨rfl,rfl,_⟩:=aF l;refine aC.a f (fun _ _=>aZ ς) (fun g w e c=>?_) m (f.rely b e) j;refine .add (c w (.a ty Wg w)).1 r (fun a b v z s=>?_) fun a i t x v b z s l=>?_
  ·obtain⟨i,d,_⟩:=(c a (aZ ς b)).2 v ω s;exact⟨i,d⟩
  ·obtain⟨o,d,B,A⟩:=(c a (aZ ς b)).2 v ω s;rw[d] at l;obtain⟨rfl,rfl,_⟩:=aF l;have q:=f.a y (aside_setCell a (stA Wg) (.int .u64 ((v+1) * KK))) (f.rely b e);by_cases p:v=0
   ·obtain⟨m,j⟩:=B p;refine aC.a f (fun _ _=>aZ ς) (fun g w e c=>?_) m q j;refine ri f ς (.inl rfl) (c w (.a ty Wg w)).1 e fun a e b=>?_;obtain⟨_,i,d,m,j⟩:=c a b;exact⟨i,d,aC.a f (fun _ _=>aZ ς) u m e j⟩
   ·obtain⟨m,j⟩:=A p;exact aC.a f (fun _ _=>aZ ς) u m q j
def AR(o:qq O K J)(z:¬(O Wg\/K Wg))(y:∀g w,Anch g w->∃m,Goes P true (RO ty Wg) DC0 (C1 P ty Wg Fin Anch) m g w)
 (k:∀g w m (r:Nat->Nat->Prop),J w->(∀(i:Nat) (Q:bE),Qs[i]?=some Q->Q (r i) w)->(∀i,i<Qs.length->∀b,r i b->¬O b/\¬K b/\b<w.heap.size)->(∀i k,i<Qs.length->k<Qs.length->i≠k->∀b,r i b->¬r k b)->
  Goes P true RT DC0 Fin m g w->aC P ty Post Wg [] .free (fun b=>O b\/∃i,i<Qs.length/\r i b) K g w) :
 ∀b,b<2147483648->∀g w,J w->(∀a,RO ty Wg w a->Anch g a)->aC P ty Post Wg Qs (.an b) O K g w:=by
 have L:∀g w,J w->(∀a,RO ty Wg w a->CA P Wg Fin g a)->aC P ty Post Wg Qs .aq O K g w:=fun g w l d=>by
  refine .aq (d w (.a ty Wg w)).1 (fun a c=>?_) fun a j s t r c I R M h=>?_
  ·obtain⟨_,j,e,_⟩:=d a (aZ ς c);exact⟨j,e⟩
  ·obtain⟨_,q,e,m,p⟩:=d a (aZ ς c);rw[e] at h;obtain⟨rfl,rfl,_⟩:=aF h;exact k _ _ m r (o.rely c l) I R M p
 have A:∀g w,J w->(∀a,RO ty Wg w a->CE P ty Wg Fin g a)->aC P ty Post Wg Qs .ke O K g w:=fun g w l d=>by
  refine .ke (d w (.a ty Wg w)).1 (fun a c=>?_) fun a j s t c h=>?_
  ·obtain⟨_,j,e,_⟩:=d a (aZ ς c);exact⟨j,e⟩
  ·obtain⟨_,q,e,m,p⟩:=d a (aZ ς c);rw[e] at h;obtain⟨rfl,rfl,_⟩:=aF h;exact aC.a o (fun _ _=>aZ ς) L m (o.rely c l) p
 have T:∀g w,J w->(∀a,RO ty Wg w a->C4 P ty Wg Fin g a)->aC P ty Post Wg Qs .w4 O K g w:=fun g w l d=>by
  refine .l4 (d w (.a ty Wg w)).1 (fun a c f=>?_) fun a j s t c f h=>?_
  ·obtain⟨j,e,_⟩:=(d a (aZ ς c)).2 f;exact⟨j,e⟩
  ·obtain⟨q,e,m,p⟩:=(d a (aZ ς c)).2 f;rw[e] at h;obtain⟨rfl,rfl,_⟩:=aF h;exact aC.a o (fun _ _=>aZ ς) A m (o.rely c l) p
 have F:∀g w,J w->(∀a,RO ty Wg w a->C3 P ty Wg Fin g a)->aC P ty Post Wg Qs .w3 O K g w:=fun g w l d=>by
  refine .sem (d w (.a ty Wg w)).1 (d w (.a ty Wg w)).2.1 (fun a c N f=>(d a (aZ ς c)).2.2.1 N f) (fun a c f=>?_) fun a j s t c f h=>?_
  ·obtain⟨j,e,_⟩:=(d a (aZ ς c)).2.2.2 f;exact⟨j,e⟩
  ·obtain⟨q,e,m,p⟩:=(d a (aZ ς c)).2.2.2 f;rw[e] at h;obtain⟨rfl,rfl,_⟩:=aF h;exact aC.a o (fun _ _=>aZ ς) T m (o.a z (aside_setCell a (smA Wg) _) (o.rely c l)) p
 have C:∀g w,J w->(∀a,RO ty Wg w a->CW P ty Wg Fin g a)->aC P ty Post Wg Qs .w3 O K g w:=fun g w l d=>by
  refine ri o ς (.inr rfl) (d w (.a ty Wg w)).1 l fun a l c=>?_;obtain⟨_,j,e,m,p⟩:=d a c;exact⟨j,e,aC.a o (fun _ _=>aZ ς) F m l p⟩
 intro b;induction b using Nat.strongRecOn with
 | _ b E =>
   intro U g w l d;obtain⟨m,S⟩:=y g w (d w (.a ty Wg w));refine aC.a o (fun _ _=>aZ ς) (fun g w l d=>?_) m l S;refine .ld (d w (.a ty Wg w)).1 (fun a c v D f=>?_) (fun a j s t c f h=>?_) fun a j s t v c B D f h=>?_
   ·obtain⟨j,e,_⟩:=(d a (aZ ς c)).2 v ω f;exact⟨j,e⟩
   ·obtain⟨q,e,H,_⟩:=(d a (aZ ς c)).2 0 ω f;rw[e] at h;obtain⟨rfl,rfl,_⟩:=aF h;obtain⟨m,p⟩:=H rfl;exact aC.a o (fun _ _=>aZ ς) A m (o.rely c l) p
   ·obtain⟨q,e,_,G⟩:=(d a (aZ ς c)).2 v ω f;rw[e] at h;obtain⟨rfl,rfl,_⟩:=aF h;obtain⟨m,p⟩:=G ω;refine aC.a o (fun _ _=>aZ ς) (fun g w l d=>?_) m (o.rely c l) p;refine .cas (d w (.a ty Wg w)).1 (fun a c f=>?_) (fun a c u x f=>?_) (fun a j s t c f h=>?_) fun a j s t u c x f h=>?_
    ·obtain⟨j,e,_⟩:=((d a (aZ ς c)).2 v ω f).1 rfl;exact⟨j,e⟩
    ·obtain⟨j,e,_⟩:=((d a (aZ ς c)).2 u ω f).2 ω;exact⟨j,e⟩
    ·obtain⟨q,e,m,p⟩:=((d a (aZ ς c)).2 v ω f).1 rfl;rw[e] at h;obtain⟨rfl,rfl,_⟩:=aF h;exact aC.a o (fun _ _=>aZ ς) C m (o.a z (aside_setCell a (stA Wg) _) (o.rely c l)) p
    ·obtain⟨q,e,m,p⟩:=((d a (aZ ς c)).2 u ω f).2 ω;rw[e] at h;obtain⟨rfl,rfl,_⟩:=aF h;exact aC.a o (fun _ _=>aZ ς) (fun g w l d=>E u ω ω g w l d) m (o.rely c l) p
def AS(l:qq O K J)(t:¬(O Wg\/K Wg))(p:∀g w,Anch g w->∃m,Goes P true (RO ty Wg) DC0 (C1 P ty Wg Fin Anch) m g w)(f:Qs.length<2147483648)
 (k:∀g w m (d:Nat->Nat->Prop),J w->(∀(i:Nat) (Q:bE),Qs[i]?=some Q->Q (d i) w)->(∀i,i<Qs.length->∀b,d i b->¬O b/\¬K b/\b<w.heap.size)->(∀i k,i<Qs.length->k<Qs.length->i≠k->∀b,d i b->¬d k b)->
  Goes P true RT DC0 Fin m g w->aC P ty Post Wg [] .free (fun b=>O b\/∃i,i<Qs.length/\d i b) K g w) (e:J w) (h:Goes P true (RO ty Wg) DC0 (CD P ty Wg Anch) n g w):aC P ty Post Wg Qs .sp O K g w:=by
 refine aC.a l (fun _ _=>aZ ς) (fun g w e j=>?_) n e h;refine .wd (j w (.a ty Wg w)).1 (fun c a=>?_) fun c r x v a q=>?_
 ·obtain⟨_,r,o,_⟩:=j c (aZ ς a);exact⟨r,o⟩
 ·obtain⟨_,u,o,m,s⟩:=j c (aZ ς a);rw[o] at q;obtain⟨rfl,rfl,_⟩:=aF q;exact aC.a l (fun _ _=>aZ ς) (fun g w e j=>AR l t p k _ f g w e j) m (l.rely a e) s
end
end
variable {O:Nat->Prop}{g:Goroutine}
section
variable (P:Program)(ty:TypeId)(Wg:Nat)
def E4(g:Goroutine)(w:World):Prop:=g.status=.running/\mayWake P g=true/\(WgAt ty Wg w 0 0->∃g',stepG P false g w=.go g' (w.setCell (smA Wg) (.int .u32 1)) (semEvents (smA Wg))/\∃q,QuitsD P q 1 g')
def E3(g:Goroutine)(w:World):Prop:=g.status=.running/\(WgAt ty Wg w 1 0->∃g',stepG P false g w=.go g' (w.setCell (stA Wg) (.int .u64 0)) #[wr (stA Wg)]/\∃m,Goes P false (RO ty Wg) DC0 (E4 P ty Wg) m g' (w.setCell (stA Wg) (.int .u64 0)))
def E2(g:Goroutine)(w:World):Prop:=g.status=.running/\(WgAt ty Wg w 1 0->∃g',stepG P false g w=.go g' w #[rd (stA Wg)]/\∃m,Goes P false (RO ty Wg) DC0 (E3 P ty Wg) m g' w)
def E1(g:Goroutine)(w:World):Prop:=g.status=.running/\∀v wt:Nat,wt<=1->v<2147483647->WgAt ty Wg w ((v+1) * KK+wt) 0->
 ∃ g', stepG P false g w = .go g' (w.setCell (stA Wg) (.int .u64 (v * KK + wt))) #[rd (stA Wg), wr (stA Wg)] /\
   ((v=0/\wt=1)->∃m,Goes P false (RO ty Wg) DC0 (E2 P ty Wg) m g' (w.setCell (stA Wg) (.int .u64 (v * KK+wt))))/\(¬(v=0/\wt=1)->∃q,QuitsD P q 1 g')
def EK(g:Goroutine)(w:World):Prop:=g.status=.running/\∃g',stepG P false g w=.go g' w #[mk .disable]/\∃m,Goes P false (RO ty Wg) DC0 (E1 P ty Wg) m g' w
def ER(g:Goroutine)(w:World):Prop:=g.status=.running/\∃g',stepG P false g w=.go g' w #[mk (.releaseMerge (stA Wg))]/\∃m,Goes P false (RO ty Wg) DC0 (EK P ty Wg) m g' w
end
def ju{P:Program}:∀{n m d:Nat}{g:Goroutine},QuitsD P n d g->n<=m->QuitsD P m d g
 |0,0,_,_,h,_=>h
 |0,m+1,_,_,h,_=>.inl h
 |n+1,0,_,_,_,j=>by omega
 |n+1,m+1,_,_,h,j=>h.imp id fun ⟨b,c,f,i,e,a⟩=>⟨b,c,f,i,e,ju a ω⟩
section
variable {P:Program}{ty:TypeId}{Wg:Nat}{Q:bE}{K:Nat->Prop}
def xh{K:Nat->Prop}{a:World}(h:Rely O K (WgLive ty Wg) w a):RO ty Wg w a:=h.d
def zI{M:dD->World->(Nat->Prop)->Goroutine->World->Prop}(h:∀a,Rely O K (WgLive ty Wg) w a->∃T,∀c b d,stepG P false g a=.go c b d->M T a (grow O a b) c b) :
 ∃f:World->dD,∀a c b d,Rely O K (WgLive ty Wg) w a->stepG P false g a=.go c b d->M (f a) a (grow O a b) c b:=by
 refine⟨fun a=>open Classical in if e:Rely O K _ w a then Classical.choose (h a e) else .leaf,fun a c b d e i=>?_⟩;simp only[dif_pos e];exact Classical.choose_spec (h a e) c b d i
def Wk.f{Stop:(Nat->Prop)->Goroutine->World->Prop}(h:Go.Pm.Way P false K (WgLive ty Wg) oK Stop O g w)(k:∀O g w,(∀a,Rely O K (WgLive ty Wg) w a->Stop O g a)->∃T,Wk P ty Wg Q K T 7 0 O g w):∃T,Wk P ty Wg Q K T 7 0 O g w:=by
 induction h with
 |stop h=>simp_all
 | @step O g w c b h q =>
   obtain⟨f,p⟩:=zI fun a d=>by
    obtain⟨l,n,m,j,_⟩:=b a d;obtain⟨T,o⟩:=q a l n m d j;refine⟨T,fun t s r i=>?_⟩;rw[j] at i;obtain⟨rfl,rfl,_⟩:=aF i;exact o
   exact⟨.node f,.idle ω c (fun a d=>let ⟨l,n,m,j,i⟩:=b a d;⟨l,n,m,j,i,fun e=>absurd rfl e⟩) p⟩
def Wk.a{S:Goroutine->World->Prop}{s d:Nat}(v:(s=7/\d=0)\/(s=6/\d=0)\/(2<=s/\s<=5/\d=1)){J:World->Prop}(x:∀w a,Rely O K (WgLive ty Wg) w a->J w->J a)(k:∀g w,J w->(∀a,RO ty Wg w a->S g a)->∃T,Wk P ty Wg Q K T s d O g w) :
 ∀(n:Nat) {g:Goroutine}{w:World},J w->Goes P false (RO ty Wg) DC0 S n g w->∃T,Wk P ty Wg Q K T s d O g w:=by
 intro n;induction n with
 |zero=>intro g w i h;exact k g w i h
 | succ n m =>
   intro g w i h;rcases h with h|⟨c,h⟩
   ·simp_all
   ·obtain⟨f,u⟩:=zI fun a e=>by
     have:=h a (xh e);cases b:stepG P _ g a with
     | go l j z =>
       rw[b,goes_go] at this;obtain⟨⟨rfl,rfl⟩,y⟩:=this;obtain⟨T,r⟩:=m (x _ _ e i) y;refine⟨T,fun q p o t=>?_⟩;obtain⟨rfl,rfl,_⟩:=aF t;rw[Go.Pm.bH O rfl];exact r
     |_=>rw[b] at this;exact this.elim
    refine⟨.node f,.idle v c (fun a e=>?_) u⟩;have:=h a (xh e);cases b:stepG P _ g a with
    | go l j z =>
      rw[b,goes_go] at this;obtain⟨⟨rfl,rfl⟩,_⟩:=this;exact⟨l,j,#[],rfl,Go.Pm.cN ς,fun _=>⟨rfl,rfl⟩⟩
    |_=>rw[b] at this;exact this.elim
def fQ{C:World->Prop}{M:dD->Goroutine->World->Prop}(h:∀a,Rely O K (WgLive ty Wg) w a->C a->∃T,∀c b e,stepG P false g a=.go c b e->M T c b) :
 ∃f:World->dD,∀a c b e,Rely O K (WgLive ty Wg) w a->C a->stepG P false g a=.go c b e->M (f a) c b:=by
 refine⟨fun a=>open Classical in if d:Rely O K _ w a/\C a then Classical.choose (h a d.1 d.2) else .leaf,fun a c b e d i j=>?_⟩;simp only[dif_pos (And.intro d i)];exact Classical.choose_spec (h a d i) c b e j
def Wk.d{n:Nat}(hQ:∀c,Rely O K (WgLive ty Wg) w c->Q O c)(h:Goes P false (RO ty Wg) DC0 (ER P ty Wg) n g w):∃T,Wk P ty Wg Q K T 7 0 O g w:=by
 have I:∀w c:World,Rely O K (WgLive ty Wg) w c->True->True:=fun _ _ _ h=>h;have X:∀g w,True->(∀c,RO ty Wg w c->E4 P ty Wg g c)->∃T,Wk P ty Wg Q K T 2 1 O g w:=fun g w _ j=>by
  obtain⟨f,C⟩:=fQ (M:=fun T e l=>Wk P ty Wg Q K T 1 1 O e l) fun c d z=>by
   obtain⟨e,i,q,G⟩:=(j c (xh d)).2.2 z;obtain⟨T,A⟩:=Wk.c G;refine⟨T,fun r y s B=>?_⟩;rw[i] at B;obtain⟨rfl,rfl,_⟩:=aF B;exact A _ _ _ _ _ _
  refine⟨.node f,.d4 (j w (.a ty Wg w)).1 (j w (.a ty Wg w)).2.1 (fun c d z=>?_) C⟩;obtain⟨e,i,q,G⟩:=(j c (xh d)).2.2 z;refine⟨e,i,?_⟩;cases q with
  |zero=>exact absurd G.2 θ
  |succ q=>exact G.elim (fun x=>absurd x.2 θ) fun x=>x.1
 have k:∀g w,True->(∀c,RO ty Wg w c->E3 P ty Wg g c)->∃T,Wk P ty Wg Q K T 3 1 O g w:=fun g w _ j=>by
  obtain⟨f,C⟩:=fQ fun c d z=>by
   obtain⟨e,i,m,B⟩:=(j c (xh d)).2 z;obtain⟨T,A⟩:=Wk.a (.inr (.inr ⟨ω,ω,rfl⟩)) I X m trivial B;refine⟨T,fun r y s k=>?_⟩;rw[i] at k;obtain⟨rfl,rfl,_⟩:=aF k;exact A
  exact⟨.node f,.d3 (j w (.a ty Wg w)).1 (fun c d z=>let ⟨e,i,_⟩:=(j c (xh d)).2 z;⟨e,i⟩) C⟩
 have B:∀g w,True->(∀c,RO ty Wg w c->E2 P ty Wg g c)->∃T,Wk P ty Wg Q K T 4 1 O g w:=fun g w _ j=>by
  obtain⟨f,C⟩:=fQ fun c d z=>by
   obtain⟨e,i,m,B⟩:=(j c (xh d)).2 z;obtain⟨T,A⟩:=Wk.a (.inr (.inr ⟨ω,ω,rfl⟩)) I k m trivial B;refine⟨T,fun r y s k=>?_⟩;rw[i] at k;obtain⟨rfl,rfl,_⟩:=aF k;exact A
  exact⟨.node f,.d2 (j w (.a ty Wg w)).1 (fun c d z=>let ⟨e,i,_⟩:=(j c (xh d)).2 z;⟨e,i⟩) C⟩
 have i:∀g w,True->(∀c,RO ty Wg w c->E1 P ty Wg g c)->∃T,Wk P ty Wg Q K T 5 1 O g w:=fun g w _ j=>by
  obtain⟨f,C⟩:=fQ (C:=fun c=>∃v p:Nat,p<=1/\v<2147483647/\WgAt ty Wg c ((v+1) * KK+p) 0)
   (M:=fun T e l=>(∃v p:Nat,p<=1/\v<2147483647/\WgAt ty Wg l (v * KK+p) 0/\((v=0/\p=1)->Wk P ty Wg Q K T 4 1 O e l)/\(¬(v=0/\p=1)->Wk P ty Wg Q K T 1 1 O e l))) fun c d z=>by
    obtain⟨v,p,o,E,u⟩:=z;obtain⟨e,i,N,H⟩:=(j c (xh d)).2 v p o E u;by_cases R:v=0/\p=1
    ·obtain⟨m,k⟩:=N R;obtain⟨T,A⟩:=Wk.a (.inr (.inr ⟨ω,ω,rfl⟩)) I B m trivial k;refine⟨T,fun r y s k=>?_⟩;rw[i] at k;obtain⟨rfl,rfl,_⟩:=aF k;exact⟨v,p,o,E,u.setSt _,fun _=>A,fun h=>absurd R h⟩
    ·obtain⟨q,G⟩:=H R;obtain⟨T,A⟩:=Wk.c G;refine⟨T,fun r y s k=>?_⟩;rw[i] at k;obtain⟨rfl,rfl,_⟩:=aF k;exact⟨v,p,o,E,u.setSt _,fun h=>absurd h R,fun _=>A _ _ _ _ _ _⟩
  have t:∀{l:World}{a b:Int},WgAt ty Wg l a 0->WgAt ty Wg l b 0->a=b:=fun H h2=>by
   unfold WgAt wgBlock at H h2;grind
  refine⟨.node f,.add (j w (.a ty Wg w)).1 (fun c d v p o E u=>let ⟨e,i,_⟩:=(j c (xh d)).2 v p o E u;⟨e,i⟩) (fun c e l s d u D=>?_) fun c e l s v p d o E u Z D=>?_⟩
  ·obtain⟨r,i,_⟩:=(j c (xh d)).2 0 1 ω ω u;obtain⟨v,p,o,E,F,N,H⟩:=C c e l s d ⟨0,1,ω,ω,u⟩ D;rw[i] at D;obtain⟨rfl,rfl,_⟩:=aF D;have:=t F (u.setSt _);simp only[KK] at this;exact N ω
  ·obtain⟨r,i,_⟩:=(j c (xh d)).2 v p o E u;obtain⟨v',W,U,Y,F,N,H⟩:=C c e l s d ⟨v,p,o,E,u⟩ D;rw[i] at D;obtain⟨rfl,rfl,_⟩:=aF D;have:=t F (u.setSt _);simp only[KK] at this;exact H ω
 have V:∀g w,True->(∀c,RO ty Wg w c->EK P ty Wg g c)->∃T,Wk P ty Wg Q K T 6 0 O g w:=fun g w _ j=>by
  obtain⟨f,C⟩:=fQ (P:=P) (O:=O) (K:=K) (ty:=ty) (Wg:=Wg) (g:=g) (w:=w) (C:=fun _=>True) (M:=fun T e l=>Wk P ty Wg Q K T 5 1 O e l) fun c d _=>by
   obtain⟨_,e,B,m,k⟩:=j c (xh d);obtain⟨T,A⟩:=Wk.a (.inr (.inr ⟨ω,ω,rfl⟩)) I i m trivial k;refine⟨T,fun r y s k=>?_⟩;rw[B] at k;obtain⟨rfl,rfl,_⟩:=aF k;exact A
  exact⟨.node f,.dis (j w (.a ty Wg w)).1 (fun c d=>let ⟨_,e,i,_⟩:=j c (xh d);⟨e,i⟩) fun c e l s d D=>C c e l s d trivial D⟩
 refine Wk.a (J:=fun w=>∀c,Rely O K (WgLive ty Wg) w c->Q O c) ω (fun w c d S M L=>S M (d.e L)) (fun g w S j=>?_) n hQ h;obtain⟨f,C⟩:=fQ (P:=P) (O:=O) (K:=K) (ty:=ty) (Wg:=Wg) (g:=g) (w:=w) (C:=fun _=>True) (M:=fun T e l=>Wk P ty Wg Q K T 6 0 O e l) fun c d _=>by
  obtain⟨_,e,B,m,k⟩:=j c (xh d);obtain⟨T,A⟩:=Wk.a ω I V m trivial k;refine⟨T,fun r y s k=>?_⟩;rw[B] at k;obtain⟨rfl,rfl,_⟩:=aF k;exact A
 exact⟨.node f,.rel (j w (.a ty Wg w)).1 S (fun c d=>let ⟨_,e,i,_⟩:=j c (xh d);⟨e,i⟩) fun c e l s d D=>C c e l s d trivial D⟩
end
