import Derived.Conc.Own
import Derived.Test.YtoklolfaemhfnaaGreatDoorZac
set_option maxRecDepth 100000
set_option maxHeartbeats 8000000
namespace Go.Pm
section
open Go Go.Conc
section
variable {α β:Type}{P:Program}
inductive ErR:Result α × Array Event->Result α × Array Event->Prop
 |ok (a:α) (w:World) (es:Array Event):ErR (.ok a w,es) (.ok a w,es)
 |halt (x:Halt) (w:World) (es:Array Event):ErR (.halt x w,es) (.halt x w,es)
 |er (x:Halt) (w:World) (es:Array Event):ErR (.halt x.er w,es) (.halt x w,es)
theorem ErR.refl(r:Result α × Array Event):ErR r r:=by
 obtain⟨r,es⟩:=r;cases r
 ·exact .ok _ _ _
 ·exact .halt _ _ _
theorem qem(s:Sem α):∀(w:World) (es:Array Event),ErR ((s.over P).runT P w es) (s.runT P w es):=by
 induction s with
 |pure a=>intro w es;exact .ok _ _ _
 |halt h=>intro w es;exact .er _ _ _
 |program k ih=>intro w es;exact ih P w es
 |mark m k ih=>intro w es;exact ih _ _
 |freeze a n k ih=>intro w es;exact ih _ _
 |shape r k ih=>intro w es;exact ih _ _ _
 |frozen r k ih=>intro w es;exact ih _ _ _
 |new o k ih=>intro w es;exact ih _ _ _
 |sys c k ih=>intro w es;exact ih _ _ _
 |choose q k ih=>intro w es;simp only[Sem.over,Sem.runT];split <;> exact ih _ _ _
 | load m a k ih =>
   intro w es;simp only[Sem.over,Sem.runT];split
   ·exact ih _ _ _
   ·split
    ·exact ih _ _ _
    ·exact ErR.refl _
 | getObj r k ih =>
   intro w es;simp only[Sem.over,Sem.runT];split
   ·exact ErR.refl _
   ·exact ih _ _ _
   ·exact ErR.refl _
 | setObj r o k ih =>
   intro w es;simp only[Sem.over,Sem.runT];split
   ·exact ErR.refl _
   ·exact ih _ _
   ·exact ErR.refl _
 | store m a v k ih =>
   intro w es;by_cases hv:(∀c,v≠.agg c)/\∀c,v≠.tuple c
   ·simp only[Sem.over];rw[qac hv,qac hv];split
    ·split
     ·exact ErR.refl _
     ·exact ih _ _
    ·split
     ·exact ih _ _
     ·exact ErR.refl _
   ·cases v <;> first|exact ErR.refl _|exact absurd (And.intro (fun c e=>(by cases e)) (fun c e=>(by cases e))) hv
theorem qdh{s:Sem α}{w w':World}{es es':Array Event}{a:α}(h:s.runT P w es=(.ok a w',es')):(s.over P).runT P w es=(.ok a w',es'):=by
 have:=qem (P:=P) s w es;rw[h] at this;generalize (s.over P).runT P w es=r at this;cases this;rfl
theorem qdi{s:Sem α}{w w':World}{es es':Array Event}{a:α}(h:(s.over P).runT P w es=(.ok a w',es')):s.runT P w es=(.ok a w',es'):=by
 have:=qem (P:=P) s w es;rw[h] at this;generalize s.runT P w es=r at this;cases this;rfl
theorem qmd{s:Sem α}{w w':World}{es es':Array Event}{x:Halt}(h:s.runT P w es=(.halt x w',es')):∃y,(s.over P).runT P w es=(.halt y w',es')/\(y=x\/y=x.er):=by
 have:=qem (P:=P) s w es;rw[h] at this;generalize (s.over P).runT P w es=r at this;cases this
 ·exact⟨x,rfl,.inl rfl⟩
 ·exact⟨x.er,rfl,.inr rfl⟩
theorem qp2{x y:Halt}(e:y=x\/y=x.er)(h:(∃v,y=.panic v)\/(∃u,y=.stuck u)\/∃u,y=.unsupported u/\∀g,u≠.initOrder g):(∃v,x=.panic v)\/(∃u,x=.stuck u)\/∃u,x=.unsupported u/\∀g,u≠.initOrder g:=by
 rcases e with rfl|rfl
 ·exact h
 ·cases x <;> first|exact .inl ⟨_,rfl⟩|exact h
theorem qen{F:Fam}{H:Perm->α->α}{π:Perm}{w wa:World}{s:Sem α}(h:qrf P F H π w wa (s.over P)){x:Halt}{w':World}{es':Array Event}(hr:s.runT P w #[]=(.halt x w',es')):(∃v,x=.panic v)\/(∃u,x=.stuck u)\/∃u,x=.unsupported u/\∀g,u≠.initOrder g:=by
 obtain⟨y,hy,e⟩:=qmd hr;exact qp2 e ((h #[] #[]).2 y w' es' hy)
theorem qz{f:α->β}(s:Sem α):∀{w w':World}{es es':Array Event}{n:β},(s.bind fun a=>.pure (f a)).runT P w es=(.ok n w',es')->∃a,n=f a:=by
 induction s with
 | pure a =>
   intro w w' es es' n h;simp only[Sem.bind,Sem.runT,yau,Result.ok.injEq] at h;exact⟨a,h.1.1.symm⟩
 |halt x=>intro w w' es es' n h;simp only[Sem.bind,Sem.runT,yau] at h;cases h.1
 |program k ih=>intro w w' es es' n h;exact ih P h
 |mark m k ih=>intro w w' es es' n h;exact ih h
 |freeze a n k ih=>intro w w' es es' n h;exact ih h
 |shape r k ih=>intro w w' es es' n h;exact ih _ h
 |frozen r k ih=>intro w w' es es' n h;exact ih _ h
 |new o k ih=>intro w w' es es' n h;exact ih _ h
 |sys c k ih=>intro w w' es es' n h;exact ih _ h
 | choose q k ih =>
   intro w w' es es' n h;simp only[Sem.bind,Sem.runT] at h;split at h <;> exact ih _ h
 | load m a k ih =>
   intro w w' es es' n h;simp only[Sem.bind,Sem.runT] at h;split at h
   ·exact ih _ h
   ·split at h
    ·exact ih _ h
    ·cases h
 | getObj r k ih =>
   intro w w' es es' n h;simp only[Sem.bind,Sem.runT] at h;split at h
   ·cases h
   ·exact ih _ h
   ·cases h
 | setObj r o k ih =>
   intro w w' es es' n h;simp only[Sem.bind,Sem.runT] at h;split at h
   ·cases h
   ·exact ih h
   ·cases h
 | store m a v k ih =>
   intro w w' es es' n h;by_cases hv:(∀c,v≠.agg c)/\∀c,v≠.tuple c
   ·simp only[Sem.bind] at h;rw[qac hv] at h;split at h
    ·split at h
     ·cases h
     ·exact ih h
    ·split at h
     ·exact ih h
     ·cases h
   ·cases v <;> first|(simp only[Sem.bind,Sem.runT,yau] at h;cases h.1)|exact absurd (And.intro (fun c e=>(by cases e)) (fun c e=>(by cases e))) hv
end
def qrn(P:Program)(F:Nat->Bool):Code->Bool
 |.region _ ops _=>ops.all fun o=>okOp P F o.op
 |.seq a b=>qrn P F a && qrn P F b
 |.cond c a b=>okX P F c && qrn P F a && qrn P F b
 |.block _ c | .loop c | .scope c=>qrn P F c
 |.rangeFunc ..=>false
 |_=>true
def okItem(P:Program)(F:Nat->Bool):Item->Bool
 |.code c | .inLoop c | .inScope c=>qrn P F c
 |.inBlock _=>true
 |.inRegion ops _=>ops.all fun o=>okOp P F o.op
 |_=>false
structure ProgOk (P:Program) (F:Fam):Prop where
 flat:∀t i v,P.info? t=some i->i.zero=some v->∀σ:Perm,v.pm σ=v
 fn : ∀ f, F f = true → ∃ fd c, P.funcs[f]? = some fd ∧ fd.body = some c ∧ (fd.name == "runtime.NumGoroutine") = false
 code:∀f fd c,F f=true->F.leaf f=false->P.funcs[f]?=some fd->fd.body=some c->qrn P F c=true
 few:∀f,F f=true->f<P.funcs.size
 gs:F.gs=P.globals.size
structure FrameOk (P:Program) (F:Fam) (fr:Frame):Prop where
 mode:fr.mode=.run\/fr.mode=.returning
 defers:fr.defers=[]
 kind:fr.kind=.normal
 round:fr.roundOf=none
 todo:∀i∈fr.todo,okItem P F i=true
 fn:F fr.fn=true
 leaf:F.leaf fr.fn=false
def _root_.Go.Frame.pm(π:Perm)(fr:Frame):Frame:={ fr with tmps:=fr.tmps.map (Value.pm π) }
def FrSup(F:Fam)(n:Nat)(fr:Frame):Prop:=∀σ,Fixes F n σ->fr.tmps.map (Value.pm σ)=fr.tmps
def Sup(F:Fam)(n:Nat)(v:Value):Prop:=∀σ,Fixes F n σ->v.pm σ=v
theorem FrSup.get{F:Fam}{n:Nat}{fr:Frame}(h:FrSup F n fr)(t:Nat):Sup F n (fr.tmps.getD t undef):=by
 intro σ hσ;have:=congrArg (fun x=>x.getD t undef) (h σ hσ);simp only[ya,yw] at this ⊢;cases hx:fr.tmps[t]? with
 |none=>simp[undef]
 |some v=>simpa[hx] using this
theorem qcy{P:Program}{F:Fam}{π:Perm}(hF:∀f,F f=true->π.g f=f)(fr:Frame){x:Operand}(hx:okX P F x=true):(fr.pm π).eval x=(fr.eval x).pm π:=by
 cases x with
 | tmp t =>
   simp only[Frame.eval,Frame.pm,ya,yw];cases fr.tmps[t]? <;> simp[undef]
 |const v=>exact(qek π v hx).symm
 |global g=>cases hx
 |func f=>simp[Frame.eval,Fn.pm,hF f hx]
theorem qbx{P:Program}{F:Fam}{n:Nat}{fr:Frame}(h:FrSup F n fr){x:Operand}(hx:okX P F x=true):Sup F n (fr.eval x):=by
 cases x with
 |tmp t=>exact h.get t
 |const v=>exact fun σ _=>qek σ v hx
 |global g=>cases hx
 |func f=>intro σ hσ;simp[Frame.eval,Fn.pm,hσ.2.1 f hx]
theorem qao{P:Program}{F:Fam}(hP:ProgOk P F){n:Nat}{v:Value}(h:Sup F n v){fn:Fn}{a b:Array Value}(hv:v=.func fn a b):∃f,fn=.func f/\F f=true:=by
 subst hv;by_cases hf:∃f,fn=.func f
 ·obtain⟨f,rfl⟩:=hf;refine⟨f,rfl,?_⟩;cases hF:F f with
  |true=>rfl
  | false =>
    exfalso
    let m:=f+P.funcs.size+1
    have hm:F m=false:=by
     cases hx:F m with
     |false=>rfl
     |true=>have:=hP.few m hx;simp only[m] at this;omega
    let σ:Perm:={ Perm.id with
     g:=fun x=>if x=f then m else if x=m then f else x
     j:=fun x=>if x=f then m else if x=m then f else x
     gj:=fun x=>by by_cases h1:x=f <;> by_cases h2:x=m <;> simp[h1,h2]
     jg:=fun x=>by by_cases h1:x=f <;> by_cases h2:x=m <;> simp[h1,h2] }
    have hσ:Fixes F n σ:=⟨fun _ _ _=>rfl,fun x hx=>by
     show (if x=f then m else if x=m then f else x)=x;rw[if_neg (fun e=>by rw[e,hF] at hx;cases hx),if_neg (fun e=>by rw[e,hm] at hx;cases hx)],fun _=>yK⟩
    have:=h σ hσ;simp only[qi1,Fn.pm,Value.func.injEq,Fn.func.injEq] at this;have h1:σ.g f=m:=by show (if f=f then m else _)=m;rw[if_pos rfl]
    rw[h1] at this;have e:(f:Nat)+(P.funcs.size+1)=f:=by have:=this.1;simp only[m] at this;exact this
    exact absurd e (by have:=Nat.lt_add_of_pos_right (n:=f) (Nat.succ_pos P.funcs.size);exact Nat.ne_of_gt this)
 ·exfalso
  have hnp:∀f,fn≠.func f:=fun f e=>hf ⟨f,e⟩;have:=h permB (qbu F n);simp only[qi1,Value.func.injEq] at this;rw[qcx permB hnp] at this;exact ql3 hnp this.1
theorem qgt{F:Fam}{n:Nat}{π π':Perm}(hb:∀r,π.f r<F.gs↔r<F.gs)(hb':∀r,π'.f r<F.gs↔r<F.gs)(h1:∀r,r<n->π'.f r=π.f r)(h2:π'.g=π.g/\π'.h=π.h/\π'.b=π.b){v:Value}(hv:Sup F n v):v.pm π'=v.pm π:=by
 have hσ:Fixes F n (π.inv.comp π'):=⟨fun r _ hr=>by show π.i (π'.f r)=r;rw[h1 r hr,π.if_],fun f _=>by show π.j (π'.g f)=f;rw[h2.1,π.jg],fun r=>by
  show π.i (π'.f r)<F.gs↔r<F.gs;rw[<-hb' r,<-hb (π.i (π'.f r)),π.fi]⟩
 rw[<-qel π π',<-pm_comp,hv _ hσ]
theorem qeo{F:Fam}{n:Nat}{π π':Perm}(hb:∀r,π.f r<F.gs↔r<F.gs)(hb':∀r,π'.f r<F.gs↔r<F.gs)(h1:∀r,r<n->π'.f r=π.f r)(h2:π'.g=π.g/\π'.h=π.h/\π'.b=π.b){fr:Frame}(hv:FrSup F n fr):fr.pm π'=fr.pm π:=by
 have:fr.tmps.map (Value.pm π')=fr.tmps.map (Value.pm π):=by
  apply Array.map_congr_left;intro v hm;refine qgt (F:=F) (n:=n) hb hb' h1 h2 fun σ hσ=>?_;obtain⟨i,hi,rfl⟩:=Array.mem_iff_getElem.1 hm;have:=congrArg (fun x=>x[i]?) (hv σ hσ);simp only[yw,yl hi,yp,yA] at this;exact this
 simp[Frame.pm,this]
theorem FrSup.mono{F:Fam}{n m:Nat}{fr:Frame}(h:FrSup F n fr)(hn:n<=m):FrSup F m fr:=fun σ hσ=>h σ (hσ.mono hn)
theorem FrSup.put{F:Fam}{n:Nat}{fr:Frame}(h:FrSup F n fr){v:Value}(hv:Sup F n v)(d:Nat)(todo:List Item):FrSup F n { fr with tmps:=fr.tmps.setIfInBounds d v,todo:=todo }:=by
 intro σ hσ;apply yap;intro j;have:=congrArg (fun x=>x[j]?) (h σ hσ);simp only[yw,yac] at this ⊢;by_cases hj:d=j
 ·subst hj;simp only[if_true];split <;> simp[hv σ hσ]
 ·simp only[hj,if_false];exact this
theorem qby{fr:Frame}{ops:Array Oper}{i:Nat}{rest:List Nat}{k:List Item}(ht:fr.todo=.inRegion ops (i::rest)::k)(v:Value) :
 fr.finish v={ fr with tmps:=(match (ops[i]?).bind (·.dst) with|some d=>fr.tmps.setIfInBounds d v|none=>fr.tmps),todo:=.inRegion ops rest::k }:=by
 unfold Frame.finish;rw[ht];rfl
theorem qq1(π:Perm)(a:Array Value)(d:Nat)(v:Value):(a.map (Value.pm π)).setIfInBounds d (v.pm π)=(a.setIfInBounds d v).map (Value.pm π):=by
 apply yap;intro j;simp only[yw,yac,yaI];by_cases hj:d=j
 ·subst hj;simp only[if_true];split <;> simp
 ·simp only[hj,if_false]
theorem qa6(π:Perm){fr:Frame}{ops:Array Oper}{i:Nat}{rest:List Nat}{k:List Item}(ht:fr.todo=.inRegion ops (i::rest)::k)(v:Value):(fr.pm π).finish (v.pm π)=(fr.finish v).pm π:=by
 rw[qby ht,qby (fr:=fr.pm π) (by exact ht)];simp only[Frame.pm];cases (ops[i]?).bind (·.dst) with
 |none=>rfl
 |some d=>simp only[qq1]
def poison:Frame:={ (default:Frame) with fn:=0,tmps:=#[],todo:=[],defers:=[{ target:=.builtin .make #[] 0 #[],args:=#[] }],mode:=.run,kind:=.normal }
def Doomed(g:Goroutine):Prop:=∃fr cs chain,g=G fr (cs++[poison])/\fr.mode=.panicking chain/\fr.defers=[]/\∀c∈cs,c.defers=[]
structure Stand (P:Program) (F:Fam) (π:Perm) (fr:Frame) (cs:List Frame) (w wa:World):Prop where
 sim:Sim F π w wa
 shut:Shut F w
 g:∀f,π.g f=f
 b:π.b=false
 top:FrameOk P F fr
 sup:FrSup F w.heap.size fr
 call:∀c∈cs,FrameOk P F c/\FrSup F w.heap.size c/\c.mode=.run/\∃ops i rest k,c.todo=.inRegion ops (i::rest)::k
theorem Stand.still{P:Program}{F:Fam}(hP:ProgOk P F){π:Perm}{fr:Frame}{cs:List Frame}{w wa:World}(h:Stand P F π fr cs w wa):Still P π:=
 ⟨fun r=>by rw[<-hP.gs];exact h.sim.below r,fun t i v a b=>hP.flat t i v a b π⟩
theorem qcf{P:Program}{F:Fam}(hP:ProgOk P F){n:Nat}{σ:Perm}(h:Fixes F n σ):Still P σ:=
 ⟨fun r=>by rw[<-hP.gs];exact h.2.2 r,fun t i v a b=>hP.flat t i v a b σ⟩
inductive Slides (P:Program) (T:World->Prop) (B:Nat):Frame->Frame->Value->Prop
 |ret {fr fra:Frame}{v:Value}{fn fna:Func} (hm:fr.mode=.returning) (hd:fr.defers=[]) (hk:fr.kind=.normal) (hf:P.funcs[fr.fn]?=some fn) (hr:∀w,T w->(results fn fr.tmps).runT P w #[]=(.ok v w,#[]))
  (hma:fra.mode=.returning) (hda:fra.defers=[]) (hka:fra.kind=.normal) (hfa:P.funcs[fra.fn]?=some fna) (hra:∀w,T w->(results fna fra.tmps).runT P w #[]=(.ok v w,#[])):Slides P T B fr fra v
 |step {fr fra fr' fra':Frame}{v:Value}{es esa:Array Event} (hm:fr.mode=.run) (hs:∀w main cs,T w->stepG P main (G fr cs) w=.go (G fr' cs) w es) (hsa:∀w main cs,T w->stepG P main (G fra cs) w=.go (G fra' cs) w esa)
  (he:∀e∈esa,∃a:Addr,e=⟨.cell a,false,false⟩/\a.block<B) (h:Slides P T B fr' fra' v):Slides P T B fr fra v
inductive Sticks (P:Program) (T:World->Prop):Frame->Prop
 |now {fr:Frame} (hs:∀w main cs,T w->∃o w' es,stepG P main (G fr cs) w=.ended o w' es):Sticks P T fr
 |step {fr fr':Frame}{es:Array Event} (hs:∀w main cs,T w->stepG P main (G fr cs) w=.go (G fr' cs) w es) (h:Sticks P T fr'):Sticks P T fr
structure LeafLaw (P:Program) (F:Fam) where
 T:World->Prop
 loc:∀w w',(∀b,b<F.gs->w'.heap[b]?=w.heap[b]?)->T w->T w'
 law:∀f args,F.leaf f=true->F f=true->(∃k x,∀π:Perm,Slides P T F.gs (Frame.enter P f args .normal) (Frame.enter P f (args.map (Value.pm π)) .normal) (.int k x))\/Sticks P T (Frame.enter P f args .normal)
theorem qa7(P:Program)(fr:Frame)(cs:List Frame)(w:World)(s:Sem Next)(hk:fr.kind=.normal)(v w' es)(h:s.runT P w #[]=(.ok (.value v) w',es)):stepG.apply P true fr cs none s w=.go (G (fr.finish v) cs) w' (seen P fr.fn es):=by
 unfold stepG.apply;simp only[if_true,h,hk,GStep.after,yaJ];rfl
theorem qbl(P:Program)(fr:Frame)(cs:List Frame)(w:World)(s:Sem Next)(hk:fr.kind=.normal)(w' es)(h:s.runT P w #[]=(.ok .skip w',es)):stepG.apply P true fr cs none s w=.go (G (fr.finish undef) cs) w' (seen P fr.fn es):=by
 unfold stepG.apply;simp only[if_true,h,hk,GStep.after,yaJ];rfl
theorem qat(P:Program)(fr:Frame)(cs:List Frame)(w:World)(ops i rest k)(s:Sem Next)(ht:fr.todo=.inRegion ops (i::rest)::k)(hk:fr.kind=.normal)(f args w' es)(h:s.runT P w #[]=(.ok (.enter f args) w',es)):stepG.apply P true fr cs none s w=.go (G (Frame.enter P f args .normal) (fr::cs)) w' (seen P fr.fn es):=by
 unfold stepG.apply;simp only[if_true,h,hk,GStep.after,yaJ,ht];rfl
theorem qau(P:Program)(fr:Frame)(cs:List Frame)(w:World)(s:Sem Next)(hk:fr.kind=.normal)(v w' es)(h:s.runT P w #[]=(.halt (.panic v) w',es)):stepG.apply P true fr cs none s w=.go (G (fr.raise [{ v,recovered:=false }]) cs) w' (seen P fr.fn es):=by
 unfold stepG.apply;simp only[if_true,h,hk,GStep.after,yaJ];rfl
theorem qav(P:Program)(fr:Frame)(cs:List Frame)(w:World)(s:Sem Next)(hk:fr.kind=.normal)(v w' es)(h:s.runT P w #[]=(.halt (.stuck v) w',es)):∃o w'' es',stepG.apply P true fr cs none s w=.ended o w'' es':=by
 unfold stepG.apply;simp only[if_true,h,hk,GStep.after,yaJ];exact⟨_,_,_,rfl⟩
theorem qaw(P:Program)(fr:Frame)(cs:List Frame)(w:World)(s:Sem Next)(hk:fr.kind=.normal)(u w' es)(hu:∀g,u≠.initOrder g)(h:s.runT P w #[]=(.halt (.unsupported u) w',es)):∃o w'' es',stepG.apply P true fr cs none s w=.ended o w'' es':=by
 unfold stepG.apply;simp only[if_true,h,hk,GStep.after,yaJ];cases u <;> first|exact⟨_,_,_,rfl⟩|exact absurd rfl (hu _)
theorem qk(P:Program)(main:Bool)(fr c:Frame)(cs:List Frame)(w w':World)(hm:fr.mode=.returning)(hd:fr.defers=[])(hk:fr.kind=.normal)(fn v es)(hf:P.funcs[fr.fn]?=some fn)(h:(results fn fr.tmps).runT P w #[]=(.ok v w',es)):stepG P main (G fr (c::cs)) w=.go (G (c.finish v) cs) w' (seen P fr.fn es):=by
 unfold stepG G;simp only[hm,unwind,hd,hf,h,doReturn,hk,GStep.after,yaJ]
theorem qai(P:Program)(main:Bool)(fr c:Frame)(cs:List Frame)(w w':World)(hm:fr.mode=.returning)(hd:fr.defers=[])(hk:fr.kind=.normal)(fn x es)(hf:P.funcs[fr.fn]?=some fn)(h:(results fn fr.tmps).runT P w #[]=(.halt x w',es)):∃o w'' es',stepG P main (G fr (c::cs)) w=.ended o w'' es':=by
 unfold stepG G;simp only[hm,unwind,hd,hf,h,doReturn,hk,GStep.after];cases x <;> exact⟨_,_,_,rfl⟩
theorem qcz(P:Program)(main:Bool)(fr:Frame)(cs:List Frame)(w:World)(hm:fr.mode=.run):stepG P main (G fr cs) w=stepG.exec P main true fr cs none w:=by
 unfold stepG G;simp only[hm]
theorem seen_sub(P:Program)(fn:FuncId)(es:Array Event):∀e∈seen P fn es,e∈es:=by
 unfold seen;obtain⟨l⟩:=es;have key:∀(l:List Event) (q:Bool) (kept:Array Event) (T:Event->Prop),(∀e∈kept,T e)->(∀e∈l,T e)->
  ∀e∈(l.foldl (fun (x:Bool × Array Event) e=>match e.loc with | .mark (.extern f)=>((P.funcs[f]?).any (·.norace),x.2)|_=>(x.1,if x.1 && !e.sync then x.2 else x.2.push e)) (q,kept)).2,T e:=by
  intro l;induction l with
  |nil=>intro q kept T hk _;exact hk
  | cons a l ih =>
    intro q kept T hk hl;simp only[List.foldl_cons];have ha:=hl a (by simp);have hl':∀e∈l,T e:=fun e he=>hl e (by simp[he]);split
    ·exact ih _ _ T hk hl'
    ·refine ih _ _ T ?_ hl';split
     ·exact hk
     ·intro e he;rcases Array.mem_push.1 he with he|he
      ·exact hk e he
      ·rw[he];exact ha
 intro e he;simp only[List.foldl_toArray] at he;have:=key l ((P.funcs[fn]?).any (·.norace)) #[] (fun e=>e∈l) (by simp) (fun e h=>h) e he;simpa using this
theorem qa8{P:Program}{F:Fam}{fn:FuncId}{π:Perm}{n:Nat}{d:Array Event}(h:∀e∈d,Within F π n e):∀e∈seen P fn (#[]++d),Within F π n e:=fun e he=>h e (by have:=seen_sub P fn _ e he;simpa using this)
theorem qhz{P:Program}{F:Nat->Bool}{l:Nat}:∀{c d:Code},qrn P F c=true->findLabel c l=some d->qrn P F d=true:=by
 intro c;induction c with
 | seq a b iha ihb =>
   intro d hc h;simp only[qrn,yB] at hc;simp only[findLabel] at h;cases ha:findLabel a l with
   |some r=>rw[ha] at h;cases h;simp only[qrn,yB];exact⟨iha hc.1 ha,hc.2⟩
   |none=>rw[ha] at h;exact ihb hc.2 h
 | label m =>
   intro d _ h;simp only[findLabel] at h;split at h
   ·cases h;rfl
   ·cases h
 |_=>intro d _ h;simp[findLabel] at h
theorem qep{P:Program}{F:Nat->Bool}{id:Nat}:∀{k k':List Item},(∀i∈k,okItem P F i=true)->exitTo id k=some k'->∀i∈k',okItem P F i=true
 |[],k',_,h=>by simp[exitTo] at h
 | x :: k, k', hk, h => by
   have hk':∀i∈k,okItem P F i=true:=fun i hi=>hk i (by simp[hi]);cases x <;> simp only[exitTo] at h <;> first|exact qep hk' h|skip
   split at h
   ·cases h;exact hk'
   ·exact qep hk' h
theorem qeq{P:Program}{F:Nat->Bool}{l:Nat}:∀{k k':List Item},(∀i∈k,okItem P F i=true)->gotoIn l k=some k'->∀i∈k',okItem P F i=true
 |[],k',_,h=>by simp[gotoIn] at h
 | x :: k, k', hk, h => by
   have hk':∀i∈k,okItem P F i=true:=fun i hi=>hk i (by simp[hi]);cases x <;> simp only[gotoIn] at h <;> first|exact qeq hk' h|skip
   rename_i body
   cases hb:findLabel body l with
   |none=>rw[hb] at h;exact qeq hk' h
   | some r =>
     rw[hb] at h;cases h;have hbody:qrn P F body=true:=hk (.inScope body) (by simp);intro i hi;simp only[yF] at hi;rcases hi with rfl|rfl|hi
     ·exact qhz hbody hb
     ·exact hbody
     ·exact hk' i hi
theorem qk3(π:Perm)(ops:Array Oper)(tmps:Array Value):yielded ops (tmps.map (Value.pm π))=yielded ops tmps:=by
 funext j;unfold yielded;cases (ops[j]?).bind (·.dst) with
 |none=>rfl
 | some d =>
   simp only[Option.bind_some,yw];cases tmps[d]? with
   |none=>rfl
   |some v=>cases v <;> simp
theorem qi6{P:Program}{F:Nat->Bool}{ρ:Operand->Value}{o:Oper}(ok:okOp P F o.op=true)
 (hpl : ∀ x, okX P F x = true → ∀ fn a b, ρ x = .func fn a b → ∃ f fd, fn = .func f ∧ P.funcs[f]? = some fd ∧ fd.body.isSome = true ∧ (fd.name == "runtime.NumGoroutine") = false)
 {w w':World}{es es':Array Event}{n:Next} (h:(execOp ρ o).runT P w es=(.ok n w',es')):(∃v,n=.value v)\/n=.skip\/∃f args,n=.enter f args:=by
 unfold okOp at ok;rw[yB] at ok;obtain⟨hX,ok⟩:=ok;have hmem:∀x∈o.op.operands,okX P F x=true:=fun x hx=>yad.1 hX x hx;unfold execOp at h;have hv:∀{s:Sem Value},(s.bind fun a=>Sem.pure (Next.value a)).runT P w es=(.ok n w',es')->(∃v,n=.value v)\/n=.skip\/∃f args,n=.enter f args:=fun h=>.inl (qz _ h);have hu:∀{s:Sem Unit},(s.bind fun _=>Sem.pure Next.skip).runT P w es=(.ok n w',es')->(∃v,n=.value v)\/n=.skip\/∃f args,n=.enter f args:=fun h=>.inr (.inl (by obtain⟨_,e⟩:=qz (f:=fun _:Unit=>Next.skip) _ h;exact e));have hp:∀{v:Value},(Sem.pure (Next.value v)).runT P w es=(.ok n w',es')->(∃v,n=.value v)\/n=.skip\/∃f args,n=.enter f args:=fun h=>by
  simp only[Sem.runT,yau,Result.ok.injEq] at h;exact .inl ⟨_,h.1.1.symm⟩
 cases ho:o.op with
 | nilCheck x =>
   rw[ho] at h hmem;have hx:=hpl x (hmem x (by simp[Op.operands]));dsimp only at h;generalize ρ x=v at h hx;cases v with
   | func fn a b =>
     obtain⟨f,fd,rfl,_⟩:=hx _ _ _ rfl;exact hp h
   | pointer a =>
     cases a with
     |none=>exact .inl (by obtain⟨_,e⟩:=qz (f:=Next.value) (Go.runtimePanic .nilDeref:Sem Value) (n:=n) (w:=w) (w':=w') (es:=es) (es':=es') h;exact⟨_,e⟩)
     |some a=>exact hp h
   |nilIface=>exact .inl (by obtain⟨_,e⟩:=qz (f:=Next.value) (Go.runtimePanic .nilDeref:Sem Value) (n:=n) (w:=w) (w':=w') (es:=es) (es':=es') h;exact⟨_,e⟩)
   |nilFunc=>exact .inl (by obtain⟨_,e⟩:=qz (f:=Next.value) (Go.runtimePanic .nilDeref:Sem Value) (n:=n) (w:=w) (w':=w') (es:=es) (es':=es') h;exact⟨_,e⟩)
   |_=>exact hp h
 | call c =>
   rw[ho] at h hmem ok;dsimp only at h ok;unfold resolve at h;cases hc:c.callee with
   | value f =>
     rw[hc] at h;have hf:=hpl f (hmem f (by simp[Op.operands,Call.operands,hc]));dsimp only at h;generalize ρ f=v at h hf;cases v with
     | func fn a b =>
       obtain⟨id,fd,rfl,hfd,hb,hn⟩:=hf _ _ _ rfl;have e:(callFunc id (a++c.args.map ρ++b)).runT P w es=(.ok n w',es'):=h;unfold callFunc at e;simp only[program,Bind.bind,Sem.bind,Sem.runT,hfd,hn,yH,if_false] at e;have hnn:¬fd.body.isNone=true:=by cases hx:fd.body <;> simp_all
       rw[if_neg hnn] at e;simp only[Pure.pure,Sem.runT,yau,Result.ok.injEq] at e;exact .inr (.inr ⟨_,_,e.1.1.symm⟩)
     |nilFunc=>exact .inl (by obtain⟨_,e⟩:=qz (f:=Next.value) (Go.runtimePanic .nilDeref:Sem Value) (n:=n) (w:=w) (w':=w') (es:=es) (es':=es') h;exact⟨_,e⟩)
     |_=>cases h
   |invoke r m=>rw[hc] at ok;cases ok
   | builtin b =>
     rw[hc] at h ok;dsimp only at h ok;cases b <;> first|exact hv h|exact absurd ok (by simp[okBuiltin])
 |pick c a b=>rw[ho] at h;exact .inl (by obtain⟨_,e⟩:=qz (f:=fun t:Bool=>Next.value (if t then ρ a else ρ b)) (asBool (ρ c)) h;exact⟨_,e⟩)
 |move x=>rw[ho] at h;exact hp h
 |assign x=>rw[ho] at h;exact hp h
 |store t a x=>rw[ho] at h;exact hu h
 |mapUpdate t m k x=>rw[ho] at h;exact hu h
 |insert t m k x=>rw[ho] at h;exact hu h
 |entryStore t m k x=>rw[ho] at h;exact hu h
 |_=>rw[ho] at h ok;first|exact hv h|cases ok
theorem Eqv.results{P:Program}{π:Perm}(S:Still P π)(fn:Func)(tmps:Array Value):Eqv P π (Value.pm π) (Go.results fn (tmps.map (Value.pm π))) (Go.results fn tmps):=by
 unfold Go.results;have hg:∀t:Nat,(tmps.map (Value.pm π)).getD t undef=(tmps.getD t undef).pm π:=fun t=>by
  simp only[ya,yw];cases tmps[t]? <;> simp[undef]
 refine Eqv.b (Eqv.mapMA (h:=Value.pm π) (fun r=>?_) fn.results) fun vs=>Eqv.p ?_
 ·cases r with
  |tmp t=>dsimp only;rw[hg];exact Eqv.p rfl
  |cell a t=>dsimp only;rw[hg];exact Eqv.b (Eqv.asAddr S) fun a=>Eqv.loadVar
 ·simp only[yaI];split
  ·simp
  ·simp
def Goes2(P:Program)(F:Fam)(π:Perm)(fr:Frame)(cs rest:List Frame)(w wa:World)(g':Goroutine)(w':World):Prop:=
 Doomed g'\/(∃fr' cs' π' wa' es',g'=G fr' (cs'++[poison])/\(∀main,stepG P main (G (fr.pm π) (cs.map (Frame.pm π)++rest)) wa=.go (G (fr'.pm π') (cs'.map (Frame.pm π')++rest)) wa' es')/\
  Stand P F π' fr' cs' w' wa'/\Ran F π π' w wa w' wa'/\∀e∈es',Within F π' w'.heap.size e)\/
 ∃ f args π' wa' es', F.leaf f = true /\ F f = true /\ g' = G (Frame.enter P f args .normal) (fr :: (cs ++ [poison])) /\
   (∀main,stepG P main (G (fr.pm π) (cs.map (Frame.pm π)++rest)) wa=.go (G (Frame.enter P f (args.map (Value.pm π')) .normal) (fr.pm π'::(cs.map (Frame.pm π')++rest))) wa' es')/\
   Stand P F π' fr cs w' wa'/\fr.mode=.run/\(∃ops i r k,fr.todo=.inRegion ops (i::r)::k)/\Ran F π π' w wa w' wa'/\∀e∈es',Within F π' w'.heap.size e
section
variable {P:Program}{F:Fam}{π:Perm}{fr:Frame}{cs rest:List Frame}{w wa:World}
theorem Stand.ctl(h:Stand P F π fr cs w wa){todo:List Item}{m:FrameMode}(hm:m=.run\/m=.returning)(ht:∀i∈todo,okItem P F i=true):Stand P F π { fr with todo:=todo,mode:=m } cs w wa:=
 ⟨h.sim,h.shut,h.g,h.b,⟨hm,h.top.defers,h.top.kind,h.top.round,ht,h.top.fn,h.top.leaf⟩,h.sup,h.call⟩
theorem qkn(h:Stand P F π fr cs w wa){todo:List Item}{m:FrameMode}{g':Goroutine}{w':World}{es:Array Event}(hm:m=.run\/m=.returning)(ht:∀i∈todo,okItem P F i=true)
 (hl:(GStep.go (G { fr with todo:=todo,mode:=m } (cs++[poison])) w #[])=.go g' w' es) (ha:∀main,stepG P main (G (fr.pm π) (cs.map (Frame.pm π)++rest)) wa=.go (G { (fr.pm π) with todo:=todo,mode:=m } (cs.map (Frame.pm π)++rest)) wa #[]) :
 Goes2 P F π fr cs rest w wa g' w':=by
 injection hl with e1 e2 e3;subst e1 e2;exact .inr (.inl ⟨{ fr with todo:=todo,mode:=m },cs,π,wa,#[],rfl,ha,h.ctl hm ht,Ran.refl h.sim h.shut,by simp⟩)
theorem Stand.ran{w' wa':World}{π':Perm}(h:Stand P F π fr cs w wa)(hr:Ran F π π' w wa w' wa'){fr':Frame}{cs':List Frame}(ht:FrameOk P F fr')(hs:FrSup F w'.heap.size fr')
 (hc:∀c∈cs',c∈cs\/(FrameOk P F c/\FrSup F w'.heap.size c/\c.mode=.run/\∃ops i rest k,c.todo=.inRegion ops (i::rest)::k)):Stand P F π' fr' cs' w' wa':=
 ⟨hr.sim, hr.shut, fun f => by rw [hr.rest.1]; exact h.g f, hr.rest.2.2.trans h.b, ht, hs,
  fun c hcm=>(hc c hcm).elim (fun h1=>⟨(h.call c h1).1,(h.call c h1).2.1.mono hr.grow,(h.call c h1).2.2⟩) id⟩
theorem qc0{w' wa':World}{π':Perm}(h:Stand P F π fr cs w wa)(hr:Ran F π π' w wa w' wa'):cs.map (Frame.pm π)=cs.map (Frame.pm π'):=
 ya1 fun c hc=>(qeo h.sim.below hr.sim.below hr.same hr.rest (h.call c hc).2.1).symm
theorem qgu(hP:ProgOk P F)(h:Stand P F π fr cs w wa){o:Oper}(ok:okOp P F o.op=true)(hnp:∀x,o.op≠.panic x) :
 qrf P F Next.pm π w wa ((execOp fr.eval o).over P)/\∀es a wa' es',(((execOp fr.eval o).over P).act π (Next.pm π)).runT P wa es=(.ok a wa',es')->(execOp (fr.pm π).eval o).runT P wa es=(.ok a wa',es'):=by
 have S:=h.still hP;have hplain:∀(σ:Perm),(∀f,F f=true->σ.g f=f)->∀x,okX P F x=true->Plain P σ (fr.eval x):=fun σ hσ x hx fn a b e=>by
  obtain⟨f,rfl,hF⟩:=qao hP (qbx h.sup hx) e;obtain⟨fd,c,h1,h2,_⟩:=hP.fn f hF;exact⟨f,fd,rfl,hσ f hF,h1,by rw[h2];rfl⟩
 constructor
 ·refine qgs ql9 _ h.sim h.shut fun σ hσ=>?_;have Sσ:Still P σ:=qcf hP hσ;exact(Eqv.execOp Sσ (F:=F) (ρ:=fr.eval) (ρ':=fr.eval) (fun x hx=>(qbx h.sup hx σ hσ).symm) hσ.2.1 (hplain σ hσ.2.1) ok hnp).symm
 ·intro es a wa' es' he;have:=Eqv.execOp S (F:=F) (ρ:=fr.eval) (ρ':=(fr.pm π).eval) (fun x hx=>qcy (F:=F) (fun f _=>h.g f) fr hx) (fun f _=>h.g f) (hplain π fun f _=>h.g f) ok hnp;exact qdi ((congrArg (fun s=>Sem.runT P s wa es) this).trans he)
theorem qcq{ρ:Operand->Value}{o:Oper}{x:Operand}(ho:o.op=.panic x)(w:World)(es:Array Event) :
 ∃h w' es',(execOp ρ o).runT P w es=(.halt h w',es')/\((∃v,h=.panic v)\/(∃u,h=.stuck u)\/∃u,h=.unsupported u/\∀g,u≠.initOrder g):=by
 unfold execOp;rw[ho];dsimp only;have hrp:∀(w:World) (es:Array Event),∃h w' es',((Go.runtimePanic .panicNil:Sem Value).bind fun a=>Sem.pure (Next.value a)).runT P w es=(.halt h w',es')/\((∃v,h=.panic v)\/(∃u,h=.stuck u)\/∃u,h=.unsupported u/\∀g,u≠.initOrder g):=by
  intro w es;unfold Go.runtimePanic elemOf underlying;simp only[program,Bind.bind,Sem.bind,Sem.runT];cases P.underlying P.rt.panicNilError with
  |none=>exact⟨_,_,_,rfl,.inr (.inl ⟨_,rfl⟩)⟩
  |some d=>cases d <;> first|exact⟨_,_,_,rfl,.inr (.inl ⟨_,rfl⟩)⟩|exact⟨_,_,_,rfl,.inl ⟨_,rfl⟩⟩
 generalize ρ x=v;cases v with
 |iface t v=>exact⟨_,_,_,rfl,.inl ⟨_,rfl⟩⟩
 | nilIface =>
   unfold Instr.panic Instr.panicnil;simp only[Go.sys,program,Bind.bind,Sem.bind,Sem.runT];generalize (w.sys .env).1=r;generalize (w.sys .env).2=w1;cases r <;> simp only[stuck,Pure.pure,Sem.bind,Sem.runT] <;> first|exact⟨_,_,_,rfl,.inr (.inl ⟨_,rfl⟩)⟩|skip
   split
   ·exact⟨_,_,_,rfl,.inl ⟨_,rfl⟩⟩
   ·exact hrp _ _
 |_=>exact⟨_,_,_,rfl,.inr (.inl ⟨_,rfl⟩)⟩
end
section
variable {P:Program}{F:Fam}{π:Perm}{fr:Frame}{cs rest:List Frame}{w wa:World}
theorem qc1(hP:ProgOk P F){f:FuncId}(hF:F f=true)(hlf:F.leaf f=false){args:Array Value}{n:Nat}(hs:∀v∈args,Sup F n v):FrameOk P F (Frame.enter P f args .normal)/\FrSup F n (Frame.enter P f args .normal):=by
 obtain⟨fd,c,h1,h2,_⟩:=hP.fn f hF;have h3:=hP.code f fd c hF hlf h1 h2;refine⟨⟨.inl rfl,rfl,rfl,rfl,fun i hi=>?_,hF,hlf⟩,fun σ hσ=>?_⟩
 ·simp only[Frame.enter,h1,Option.bind_some,h2,yv,yu] at hi;subst hi;exact h3
 ·simp only[Frame.enter,ya2,Array.map_replicate];congr 1;rw[Array.map_congr_left (g:=id) fun v hv=>hs v hv σ hσ];simp
theorem qgv(π:Perm)(f:FuncId)(args:Array Value):Frame.enter P f (args.map (Value.pm π)) .normal=(Frame.enter P f args .normal).pm π:=by
 simp[Frame.enter,Frame.pm,undef]
theorem qbm{n:Nat}{c:Frame}(hc:FrameOk P F c)(hs:FrSup F n c){ops:Array Oper}{i:Nat}{r:List Nat}{k:List Item}(ht:c.todo=.inRegion ops (i::r)::k){v:Value}(hv:Sup F n v):FrameOk P F (c.finish v)/\FrSup F n (c.finish v):=by
 rw[qby ht];have htodo:∀x∈(Item.inRegion ops r::k),okItem P F x=true:=fun x hx=>by
  rcases yF.1 hx with rfl|hx
  ·have:=hc.todo (.inRegion ops (i::r)) (by rw[ht];simp);exact this
  ·exact hc.todo x (by rw[ht];simp[hx])
 refine⟨⟨hc.mode,hc.defers,hc.kind,hc.round,htodo,hc.fn,hc.leaf⟩,?_⟩;cases (ops[i]?).bind (·.dst) with
 |none=>exact hs
 |some d=>exact hs.put hv d _
theorem qer(n:Nat):Sup F n undef:=fun σ _=>by simp[undef]
theorem qme(hP:ProgOk P F)(h:Stand P F π fr cs w wa){ops:Array Oper}{i:Nat}{r:List Nat}{k:List Item}(ht:fr.todo=.inRegion ops (i::r)::k)(hm:fr.mode=.run){o:Oper}(ho:ops[i]?=some o)
 {g':Goroutine}{w':World}{es:Array Event} (hl:stepG.apply P true fr (cs++[poison]) none (execOp fr.eval o) w=.go g' w' es)
 (ha:∀main,stepG P main (G (fr.pm π) (cs.map (Frame.pm π)++rest)) wa=stepG.apply P true (fr.pm π) (cs.map (Frame.pm π)++rest) none (execOp (fr.pm π).eval o) wa):Goes2 P F π fr cs rest w wa g' w':=by
 have hops:okItem P F (.inRegion ops (i::r))=true:=h.top.todo _ (by rw[ht];simp);have ok:okOp P F o.op=true:=yad.1 hops o (yaj ho);have hk:fr.kind=.normal:=h.top.kind;have hka:(fr.pm π).kind=.normal:=h.top.kind;by_cases hpan:∃x,o.op=.panic x
 ·obtain⟨x,hx⟩:=hpan;obtain⟨y,w1,ev,hr,hy⟩:=qcq (P:=P) (ρ:=fr.eval) hx w #[];rcases hy with ⟨v,rfl⟩|⟨u,rfl⟩|⟨u,rfl,hu⟩
  ·rw[qau P fr _ w _ hk v w1 ev hr] at hl;injection hl with e1 e2 e3;have hraise:fr.raise [{ v,recovered:=false }]={ fr with mode:=.panicking [{ v,recovered:=false }] }:=by unfold Frame.raise;rw[hm]
   rw[hraise] at e1;exact .inl ⟨{ fr with mode:=.panicking [{ v,recovered:=false }] },cs,_,e1.symm,rfl,h.top.defers,fun c hc=>(h.call c hc).1.defers⟩
  ·obtain⟨_,_,_,e⟩:=qav P fr (cs++[poison]) w _ hk u w1 ev hr;rw[e] at hl;cases hl
  ·obtain⟨_,_,_,e⟩:=qaw P fr (cs++[poison]) w _ hk u w1 ev hu hr;rw[e] at hl;cases hl
 obtain⟨hrun,hact⟩:=qgu hP h ok fun x e=>hpan ⟨x,e⟩;cases hr:(execOp fr.eval o).runT P w #[] with
 | mk res ev =>
   cases res with
   | halt x w1 =>
     have hx:=qen hrun hr;rcases hx with ⟨v,rfl⟩|⟨u,rfl⟩|⟨u,rfl,hu⟩
     ·rw[qau P fr _ w _ hk v w1 ev hr] at hl;injection hl with e1 e2 e3;have hraise:fr.raise [{ v,recovered:=false }]={ fr with mode:=.panicking [{ v,recovered:=false }] }:=by unfold Frame.raise;rw[hm]
      rw[hraise] at e1;exact .inl ⟨{ fr with mode:=.panicking [{ v,recovered:=false }] },cs,_,e1.symm,rfl,h.top.defers,fun c hc=>(h.call c hc).1.defers⟩
     ·obtain⟨_,_,_,e⟩:=qav P fr (cs++[poison]) w _ hk u w1 ev hr;rw[e] at hl;cases hl
     ·obtain⟨_,_,_,e⟩:=qaw P fr (cs++[poison]) w _ hk u w1 ev hu hr;rw[e] at hl;cases hl
   | ok n w1 =>
     obtain⟨π',wa',d,h1,h2,h3,h4⟩:=(hrun #[] #[]).1 n w1 ev (qdh hr);replace h1:=hact _ _ _ _ h1;have hkind:=qi6 ok (fun x hx fn a b e=>by
      obtain⟨f,rfl,hF⟩:=qao hP (qbx h.sup hx) e;obtain⟨fd,c,q1,q2,q4⟩:=hP.fn f hF;exact⟨f,fd,rfl,q1,by rw[q2];rfl,q4⟩) hr
     have hfr:fr.pm π=fr.pm π':=(qeo h.sim.below h2.sim.below h2.same h2.rest h.sup).symm;have hcs:=qc0 h h2;have hsup':=h.sup.mono h2.grow;rcases hkind with ⟨v,rfl⟩|rfl|⟨f,args,rfl⟩
     ·rw[qa7 P fr _ w _ hk v w1 ev hr] at hl;injection hl with e1 e2 e3;subst e1 e2;have hv:Sup F w1.heap.size v:=fun σ hσ=>by have:=h4 σ hσ;simpa[Next.pm] using this
      obtain⟨f1,f2⟩:=qbm h.top hsup' ht hv;refine .inr (.inl ⟨fr.finish v,cs,π',wa',seen P fr.fn (#[]++d),rfl,fun main=>?_,h.ran h2 f1 f2 (fun c hc=>.inl hc),h2,qa8 h3⟩);rw[ha main,qa7 P (fr.pm π) _ wa _ hka (v.pm π') wa' _ h1,hfr,qa6 π' ht,hcs];rfl
     ·rw[qbl P fr _ w _ hk w1 ev hr] at hl;injection hl with e1 e2 e3;subst e1 e2;obtain⟨f1,f2⟩:=qbm h.top hsup' ht (qer (F:=F) w1.heap.size);refine .inr (.inl ⟨fr.finish undef,cs,π',wa',seen P fr.fn (#[]++d),rfl,fun main=>?_,h.ran h2 f1 f2 (fun c hc=>.inl hc),h2,qa8 h3⟩);have hu:undef.pm π'=undef:=by simp[undef]
      rw[ha main,qbl P (fr.pm π) _ wa _ hka wa' _ h1,hfr,<-hu,qa6 π' ht,hcs,hu];rfl
     ·rw[qat P fr _ w ops i r k _ ht hk f args w1 ev hr] at hl;injection hl with e1 e2 e3;subst e1 e2;have hfix:∀σ,Fixes F w1.heap.size σ->σ.g f=f/\args.map (Value.pm σ)=args:=fun σ hσ=>by have:=h4 σ hσ;simpa[Next.pm] using this
      have hF:F f=true:=by
       obtain⟨f',e,hF'⟩:=qao hP (n:=w1.heap.size) (v:=.func (.func f) #[] #[]) (fun σ hσ=>by simp[Fn.pm,(hfix σ hσ).1]) rfl;cases e;exact hF'
      have hargs:∀v∈args,Sup F w1.heap.size v:=fun v hv σ hσ=>by
       obtain⟨j,hj,rfl⟩:=Array.mem_iff_getElem.1 hv;have:=congrArg (fun x=>x[j]?) (hfix σ hσ).2;simp only[yw,yl hj,yp,yA] at this;exact this
      have hg:π'.g f=f:=by rw[h2.rest.1];exact h.g f
      have h1':(execOp (fr.pm π).eval o).runT P wa #[]=(.ok (.enter f (args.map (Value.pm π'))) wa',#[]++d):=by rw[h1];simp[Next.pm,hg]
      cases hlf:F.leaf f with
      | true =>
        refine .inr (.inr ⟨f,args,π',wa',seen P fr.fn (#[]++d),hlf,hF,rfl,fun main=>?_,h.ran h2 h.top hsup' (fun c hc=>.inl hc),hm,⟨ops,i,r,k,ht⟩,h2,qa8 h3⟩);rw[ha main,qat P (fr.pm π) _ wa ops i r k _ (by exact ht) hka f _ wa' _ h1',hfr,hcs];rfl
      |false=>
      obtain⟨f1,f2⟩:=qc1 hP hF hlf hargs;refine .inr (.inl ⟨Frame.enter P f args .normal,fr::cs,π',wa',seen P fr.fn (#[]++d),rfl,fun main=>?_,h.ran h2 f1 f2 (fun c hc=>?_),h2,qa8 h3⟩)
      ·rw[ha main,qat P (fr.pm π) _ wa ops i r k _ (by exact ht) hka f _ wa' _ h1',qgv,hfr,hcs];rfl
      ·rcases yF.1 hc with rfl|hc
       ·exact .inr ⟨h.top,hsup',hm,ops,i,r,k,ht⟩
       ·exact .inl hc
theorem qap(h:Stand P F π fr cs w wa)(hm:fr.mode=.run){todo:List Item}{g':Goroutine}{w':World}{es:Array Event}(ht:∀i∈todo,okItem P F i=true)
 (hl:(GStep.go (G { fr with todo:=todo } (cs++[poison])) w #[])=.go g' w' es) (ha:∀main,stepG P main (G (fr.pm π) (cs.map (Frame.pm π)++rest)) wa=.go (G { (fr.pm π) with todo:=todo } (cs.map (Frame.pm π)++rest)) wa #[]) :
 Goes2 P F π fr cs rest w wa g' w':=by
 have e1:({ fr with todo:=todo }:Frame)={ fr with todo:=todo,mode:=.run }:=by rw[<-hm]
 have e2:({ (fr.pm π) with todo:=todo }:Frame)={ (fr.pm π) with todo:=todo,mode:=.run }:=by rw[show FrameMode.run=(fr.pm π).mode from hm.symm]
 refine qkn h (todo:=todo) (m:=.run) (.inl rfl) ht (by rw[<-e1];exact hl) fun main=>?_;rw[ha main,e2]
theorem qko(h:Stand P F π fr cs w wa){g':Goroutine}{w':World}{es:Array Event}
 (hl:(GStep.go (G { fr with mode:=.returning } (cs++[poison])) w #[])=.go g' w' es) (ha:∀main,stepG P main (G (fr.pm π) (cs.map (Frame.pm π)++rest)) wa=.go (G { (fr.pm π) with mode:=.returning } (cs.map (Frame.pm π)++rest)) wa #[]) :
 Goes2 P F π fr cs rest w wa g' w':=by
 have e1:({ fr with mode:=.returning }:Frame)={ fr with todo:=fr.todo,mode:=.returning }:=rfl;exact qkn h (todo:=fr.todo) (m:=.returning) (.inr rfl) h.top.todo hl ha
theorem qgw(hP:ProgOk P F)(h:Stand P F π fr cs w wa)(hns:¬(fr.mode=.returning/\cs=[])){g':Goroutine}{w':World}{es:Array Event}(hl:stepG P true (G fr (cs++[poison])) w=.go g' w' es):Goes2 P F π fr cs rest w wa g' w':=by
 rcases h.top.mode with hm|hm
 ·
  have hma:(fr.pm π).mode=.run:=hm;have hra:(fr.pm π).roundOf=none:=h.top.round;have hr:=h.top.round;rw[qcz P true fr _ w hm] at hl;have hx:∀main,stepG P main (G (fr.pm π) (cs.map (Frame.pm π)++rest)) wa=stepG.exec P main true (fr.pm π) (cs.map (Frame.pm π)++rest) none wa:=fun main=>qcz P main (fr.pm π) _ wa hma;have hti:=h.top.todo;cases ht:fr.todo with
  | nil =>
    have hta:(fr.pm π).todo=[]:=ht;have e:({ fr with mode:=.returning }:Frame)={ fr with mode:=.returning,todo:=[],roundOf:=none }:=by cases fr;simp_all
    unfold stepG.exec at hl;simp only[ht,hr,if_true] at hl;exact qko h (by rw[e];exact hl) fun main=>by rw[hx main];unfold stepG.exec;simp only[hta,hra,if_true];rfl
  | cons it k =>
    have hta:(fr.pm π).todo=it::k:=ht;have hk:∀i∈k,okItem P F i=true:=fun i hi=>hti i (by rw[ht];simp[hi]);have hit:okItem P F it=true:=hti it (by rw[ht];simp);cases it with
    | inBlock id =>
      unfold stepG.exec at hl;simp only[ht] at hl;exact qap h hm (todo:=k) hk hl fun main=>by rw[hx main];unfold stepG.exec;simp only[hta];rfl
    | inScope c =>
      unfold stepG.exec at hl;simp only[ht] at hl;exact qap h hm (todo:=k) hk hl fun main=>by rw[hx main];unfold stepG.exec;simp only[hta];rfl
    | inLoop c =>
      unfold stepG.exec at hl;simp only[ht] at hl;exact qap h hm (todo:=.code c::.inLoop c::k) (fun i hi=>by simp only[yF] at hi;rcases hi with rfl|rfl|hi;exact hit;exact hit;exact hk i hi) hl fun main=>by rw[hx main];unfold stepG.exec;simp only[hta];rfl
    | inRegion ops todo =>
      cases todo with
      | nil =>
        unfold stepG.exec at hl;simp only[ht] at hl;exact qap h hm (todo:=k) hk hl fun main=>by rw[hx main];unfold stepG.exec;simp only[hta];rfl
      | cons i r =>
        unfold stepG.exec at hl;simp only[ht] at hl;have hya:yielded ops (fr.pm π).tmps=yielded ops fr.tmps:=qk3 π ops fr.tmps;cases ho:ops[i]? with
        | none =>
          simp only[ho,Option.map_none,Option.getD_none,yH,if_false] at hl;injection hl with e1 e2 e3;subst e1 e2;obtain⟨f1,f2⟩:=qbm h.top h.sup ht (qer (F:=F) w.heap.size);refine .inr (.inl ⟨fr.finish undef,cs,π,wa,#[],rfl,fun main=>?_,h.ran (Ran.refl h.sim h.shut) f1 f2 (fun c hc=>.inl hc),Ran.refl h.sim h.shut,by simp⟩);have hu:undef.pm π=undef:=by simp[undef]
          rw[hx main];unfold stepG.exec;simp only[hta,ho,Option.map_none,Option.getD_none,yH,if_false];rw[<-hu,qa6 π ht,hu];rfl
        | some o =>
          by_cases hw:Region.wanted o (yielded ops fr.tmps)=true
          ·simp only[ho,yp,yv,hw,if_true,stepG.oper,Frame.oper?,ht,hr] at hl;refine qme hP h ht hm ho hl fun main=>?_;rw[hx main];unfold stepG.exec;simp only[hta,ho,yp,yv,hya,hw,if_true,stepG.oper,Frame.oper?,hra]
          ·simp only[ho,yp,yv,hw,yH,if_false] at hl;injection hl with e1 e2 e3;subst e1 e2;obtain⟨f1,f2⟩:=qbm h.top h.sup ht (qer (F:=F) w.heap.size);refine .inr (.inl ⟨fr.finish undef,cs,π,wa,#[],rfl,fun main=>?_,h.ran (Ran.refl h.sim h.shut) f1 f2 (fun c hc=>.inl hc),Ran.refl h.sim h.shut,by simp⟩);have hu:undef.pm π=undef:=by simp[undef]
           rw[hx main];unfold stepG.exec;simp only[hta,ho,yp,yv,hya,hw,yH,if_false];rw[<-hu,qa6 π ht,hu];rfl
    | code c =>
      cases c with
      | skip =>
        unfold stepG.exec at hl;simp only[ht] at hl;exact qap h hm (todo:=k) hk hl fun main=>by rw[hx main];unfold stepG.exec;simp only[hta];rfl
      | label l =>
        unfold stepG.exec at hl;simp only[ht] at hl;exact qap h hm (todo:=k) hk hl fun main=>by rw[hx main];unfold stepG.exec;simp only[hta];rfl
      | seq a b =>
        have hab:qrn P F a=true/\qrn P F b=true:=by simpa[okItem,qrn] using hit
        unfold stepG.exec at hl;simp only[ht] at hl;exact qap h hm (todo:=.code a::.code b::k) (fun i hi=>by simp only[yF] at hi;rcases hi with rfl|rfl|hi;exact hab.1;exact hab.2;exact hk i hi) hl fun main=>by rw[hx main];unfold stepG.exec;simp only[hta];rfl
      | block id c =>
        unfold stepG.exec at hl;simp only[ht] at hl;exact qap h hm (todo:=.code c::.inBlock id::k) (fun i hi=>by simp only[yF] at hi;rcases hi with rfl|rfl|hi;exact hit;rfl;exact hk i hi) hl fun main=>by rw[hx main];unfold stepG.exec;simp only[hta];rfl
      | loop c =>
        unfold stepG.exec at hl;simp only[ht] at hl;exact qap h hm (todo:=.code c::.inLoop c::k) (fun i hi=>by simp only[yF] at hi;rcases hi with rfl|rfl|hi;exact hit;exact hit;exact hk i hi) hl fun main=>by rw[hx main];unfold stepG.exec;simp only[hta];rfl
      | scope c =>
        unfold stepG.exec at hl;simp only[ht] at hl;exact qap h hm (todo:=.code c::.inScope c::k) (fun i hi=>by simp only[yF] at hi;rcases hi with rfl|rfl|hi;exact hit;exact hit;exact hk i hi) hl fun main=>by rw[hx main];unfold stepG.exec;simp only[hta];rfl
      | ret =>
        have e:({ fr with mode:=.returning }:Frame)={ fr with mode:=.returning,todo:=.code .ret::k,roundOf:=none }:=by cases fr;simp_all
        unfold stepG.exec at hl;simp only[ht,hr,if_true] at hl;exact qko h (by rw[e];exact hl) fun main=>by rw[hx main];unfold stepG.exec;simp only[hta,hra,if_true];rfl
      | refuse why =>
        unfold stepG.exec at hl;simp only[ht] at hl;cases hl
      |rangeFunc f ps a b=>exact absurd hit (by simp[okItem,qrn])
      | cond c a b =>
        have hab:(okX P F c=true/\qrn P F a=true)/\qrn P F b=true:=by simpa[okItem,qrn,Bool.and_eq_true] using hit
        have hev:=qcy (P:=P) (F:=F) (fun f _=>h.g f) fr hab.1.1;unfold stepG.exec at hl;simp only[ht] at hl;cases hc:fr.eval c with
        | bool t =>
          rw[hc] at hl hev;simp only[qp1] at hev;refine qap h hm (todo:=.code (if t then a else b)::k) (fun i hi=>?_) hl fun main=>by rw[hx main];unfold stepG.exec;simp only[hta,hev];rfl
          rcases yF.1 hi with rfl|hi
          ·cases t
           ·exact hab.2
           ·exact hab.1.2
          ·exact hk i hi
        |_=>rw[hc] at hl;cases hl
      | exit id =>
        unfold stepG.exec at hl;simp only[ht] at hl;cases he:exitTo id k with
        |none=>rw[he] at hl;simp only[hr] at hl;cases hl
        | some k' =>
          rw[he] at hl;exact qap h hm (todo:=k') (qep hk he) hl fun main=>by rw[hx main];unfold stepG.exec;simp only[hta,he];rfl
      | goto l =>
        unfold stepG.exec at hl;simp only[ht] at hl;cases he:gotoIn l k with
        |none=>rw[he] at hl;simp only[hr] at hl;cases hl
        | some k' =>
          rw[he] at hl;exact qap h hm (todo:=k') (qeq hk he) hl fun main=>by rw[hx main];unfold stepG.exec;simp only[hta,he];rfl
      | region id ops draw =>
        cases draw with
        | false =>
          unfold stepG.exec at hl;simp only[ht] at hl;refine qap h hm (todo:=.inRegion ops (List.range ops.size)::k) (fun i hi=>?_) hl fun main=>by rw[hx main];unfold stepG.exec;simp only[hta];rfl
          rcases yF.1 hi with rfl|hi
          ·exact hit
          ·exact hk i hi
        | true =>
          have hq:(Question.order fr.fn id).forced=false:=rfl;have hrun:∀v:World,(choose (.order fr.fn id)).run P v=.ok (Question.cut (.order fr.fn id) (v.tape v.drawn (.order fr.fn id))) { v with drawn:=v.drawn+1 }:=fun v=>by
           unfold choose;simp only[Sem.run,hq,yH,if_false]
          have et:=h.sim.tape 0 (.order fr.fn id);simp only[ya4] at et;unfold stepG.exec at hl;simp only[ht,hrun,Bool.not_true,yH,if_false] at hl;injection hl with e1 e2 e3;subst e1 e2;have hsim:Sim F π { w with drawn:=w.drawn+1 } { wa with drawn:=wa.drawn+1 }:=⟨h.sim.obj,h.sim.ids,h.sim.low,h.sim.lowa,h.sim.os,fun i q=>by have:=h.sim.tape (i+1) q;simpa[Nat.add_assoc,Nat.add_comm 1] using this⟩;have hR:Ran F π π w wa { w with drawn:=w.drawn+1 } { wa with drawn:=wa.drawn+1 }:=⟨hsim,⟨h.shut.obj⟩,yb _,yb _,fun _ _=>rfl,fun r h1 h2=>absurd h2 (yan.2 h1),fun _ _ _=>rfl,fun _ _=>rfl,rfl,rfl,rfl,rfl,rfl,rfl,rfl⟩;refine .inr (.inl ⟨{ fr with todo:=.inRegion ops (Region.schedule (P.follows .mixedOrders) ops (Question.cut (.order fr.fn id) (w.tape w.drawn (.order fr.fn id))))::k },cs,π,{ wa with drawn:=wa.drawn+1 },#[],rfl,fun main=>?_,h.ran hR ⟨.inl hm,h.top.defers,h.top.kind,h.top.round,fun i hi=>?_,h.top.fn,h.top.leaf⟩ h.sup (fun c hc=>.inl hc),hR,by simp⟩)
          ·rw[hx main];unfold stepG.exec;simp only[hta,show (fr.pm π).fn=fr.fn from rfl,hrun,<-et,Bool.not_true,yH,if_false];rfl
          ·rcases yF.1 hi with rfl|hi
           ·exact hit
           ·exact hk i hi
    |_=>exact absurd hit (by simp[okItem])
 ·
  cases cs with
  |nil=>exact absurd ⟨hm,rfl⟩ hns
  | cons c cs =>
    obtain⟨hcok,hcsup,hcm,ops,i,r,k,hct⟩:=h.call c (by simp);obtain⟨fd,body,hfd,_⟩:=hP.fn fr.fn h.top.fn;have hlone:qrf P F Value.pm π w wa ((results fd fr.tmps).over P):=qgs pm_comp _ h.sim h.shut fun σ hσ=>by
     have Sσ:Still P σ:=qcf hP hσ;have:=Eqv.results Sσ fd fr.tmps;rw[h.sup σ hσ] at this;exact this.symm
    have hact:∀es a wa' es',(((results fd fr.tmps).over P).act π (Value.pm π)).runT P wa es=(.ok a wa',es')->(results fd (fr.pm π).tmps).runT P wa es=(.ok a wa',es'):=fun es a wa' es' he=>
     qdi ((congrArg (fun s=>Sem.runT P s wa es) (Eqv.results (h.still hP) fd fr.tmps)).trans he)
    cases hres:(results fd fr.tmps).runT P w #[] with
    | mk res ev =>
      cases res with
      | halt x w1 =>
        obtain⟨_,_,_,e⟩:=qai P true fr c (cs++[poison]) w w1 hm h.top.defers h.top.kind fd x ev hfd hres;rw[show (c::cs)++[poison]=c::(cs++[poison]) from rfl,e] at hl;cases hl
      | ok v w1 =>
        rw[show (c::cs)++[poison]=c::(cs++[poison]) from rfl,qk P true fr c (cs++[poison]) w w1 hm h.top.defers h.top.kind fd v ev hfd hres] at hl;injection hl with e1 e2 e3;subst e1 e2;obtain⟨π',wa',d,h1,h2,h3,h4⟩:=(hlone #[] #[]).1 v w1 ev (qdh hres);replace h1:=hact _ _ _ _ h1;obtain⟨f1,f2⟩:=qbm hcok (hcsup.mono h2.grow) hct (v:=v) (fun σ hσ=>h4 σ hσ);have hcs:=qc0 h h2;simp only[yN,yar] at hcs;refine .inr (.inl ⟨c.finish v,cs,π',wa',seen P fr.fn (#[]++d),rfl,fun main=>?_,h.ran h2 f1 f2 (fun c' hc'=>.inl (by simp[hc'])),h2,qa8 h3⟩);rw[yN,yah,qk P main (fr.pm π) (c.pm π) _ wa wa' hm h.top.defers h.top.kind fd (v.pm π') _ hfd h1,hcs.1,qa6 π' hct,hcs.2];rfl
end
section
variable {P:Program}{α β:Type}
def Keeps(P:Program)(s:Sem α):Prop:=∀w a w',s.run P w=.ok a w'->w'=w
theorem run_bind(s:Sem α)(f:α->Sem β):∀w,(s.bind f).run P w=match s.run P w with | .ok a w'=>(f a).run P w' | .halt h w'=>.halt h w':=by
 induction s with
 |pure a=>intro w;rfl
 |halt h=>intro w;rfl
 |program k ih=>intro w;exact ih P w
 |mark m k ih=>intro w;exact ih _
 |freeze a n k ih=>intro w;exact ih _
 |shape r k ih=>intro w;exact ih _ _
 |frozen r k ih=>intro w;exact ih _ _
 |new o k ih=>intro w;exact ih _ _
 |sys c k ih=>intro w;exact ih _ _
 |choose q k ih=>intro w;simp only[Sem.bind,Sem.run];split <;> exact ih _ _
 | load m a k ih =>
   intro w;simp only[Sem.bind,Sem.run];split
   ·exact ih _ _
   ·split
    ·exact ih _ _
    ·rfl
 | getObj r k ih =>
   intro w;simp only[Sem.bind,Sem.run];split
   ·rfl
   ·exact ih _ _
   ·rfl
 | setObj r o k ih =>
   intro w;simp only[Sem.bind,Sem.run];split
   ·rfl
   ·exact ih _
   ·rfl
 | store m a v k ih =>
   intro w;cases v <;> first|rfl|skip
   all_goals
    simp only[Sem.bind,Sem.run];split
    ·split
     ·rfl
     ·exact ih _
    ·split
     ·exact ih _
     ·rfl
theorem Keeps.bind{s:Sem α}{f:α->Sem β}(h:Keeps P s)(hf:∀a,Keeps P (f a)):Keeps P (s >>= f):=by
 intro w a w' e;have e':(s.bind f).run P w=.ok a w':=e;rw[run_bind] at e';cases hs:s.run P w with
 |halt x w1=>rw[hs] at e';cases e'
 | ok b w1 =>
   rw[hs] at e';have:=h _ _ _ hs;subst this;exact hf b _ _ _ e'
theorem Keeps.pure(a:α):Keeps P (Pure.pure a:Sem α):=fun w b w' e=>by cases e;rfl
theorem Keeps.halt(h:Halt):Keeps P (.halt h:Sem α):=fun w b w' e=>by cases e
theorem Keeps.program:Keeps P Go.program:=fun w b w' e=>by cases e;rfl
theorem Keeps.load(a:Addr):Keeps P (Go.load a):=fun w b w' e=>by
 simp only[Go.load,Sem.run] at e;split at e
 ·cases e;rfl
 ·split at e
  ·cases e;rfl
  ·cases e
theorem Keeps.typeInfo(t:TypeId):Keeps P (Go.typeInfo t):=Keeps.bind Keeps.program fun p=>by split;exact Keeps.pure _;exact Keeps.halt _
theorem Keeps.underlying(t:TypeId):Keeps P (Go.underlying t):=Keeps.bind Keeps.program fun p=>by split;exact Keeps.pure _;exact Keeps.halt _
theorem Keeps.loadCellsFrom(a:Addr):∀(n i:Nat) (acc:Array Value),Keeps P (Go.loadCellsFrom a i n acc)
 |0,_,_=>Keeps.pure _
 |n+1,i,acc=>Keeps.bind (Keeps.load _) fun v=>Keeps.loadCellsFrom a n (i+1) (acc.push v)
theorem Keeps.loadVar(t:TypeId)(a:Addr):Keeps P (Go.loadVar t a):=by
 unfold Go.loadVar;refine Keeps.bind (Keeps.bind (Keeps.underlying t) fun d=>?_) fun b=>?_
 ·cases d <;> exact Keeps.pure _
 ·split
  ·exact Keeps.bind (Keeps.bind (Keeps.typeInfo t) fun i=>Keeps.pure _) fun n=>Keeps.bind (Keeps.loadCellsFrom a n 0 #[]) fun cs=>Keeps.pure _
  ·exact Keeps.load a
theorem Keeps.mapM{ι:Type}{f:ι->Sem α}(hf:∀i,Keeps P (f i)):∀l:List ι,Keeps P (l.mapM f)
 |[]=>by haveI:=lawful;rw[List.mapM_nil];exact Keeps.pure _
 | x :: l => by
   haveI:=lawful
   rw[List.mapM_cons];exact Keeps.bind (hf x) fun a=>Keeps.bind (Keeps.mapM hf l) fun as=>Keeps.pure _
theorem qc2(fn:Func)(tmps:Array Value):Keeps P (Go.results fn tmps):=by
 unfold Go.results;haveI:=lawful
 rw[Array.mapM_eq_mapM_toList];refine Keeps.bind (Keeps.bind (f:=fun l=>Pure.pure l.toArray) (Keeps.mapM (fun r=>?_) _) fun l=>Keeps.pure _) fun vs=>Keeps.pure _;cases r with
 |tmp t=>exact Keeps.pure _
 | cell a t =>
   refine Keeps.bind ?_ fun x=>Keeps.loadVar _ _;cases tmps.getD a undef with
   | pointer p =>
     cases p with
     |some p=>exact Keeps.pure _
     | none =>
       unfold asAddr runtimePanic;exact Keeps.bind Keeps.program fun p=>Keeps.halt _
   |_=>exact Keeps.halt _
end
section
variable {P:Program}
theorem qi7{fr:Frame}{cs:List Frame}{chain:List PanicEntry}{w:World}(hm:fr.mode=.panicking chain)(hd:fr.defers=[])(hc:∀c∈cs,c.defers=[]) :
 (∃o w',step P (lone fr (cs++[poison]) w)=.ended o w')\/∃fr' cs' chain',step P (lone fr (cs++[poison]) w)=.next (lone fr' cs' w)/\fr'.mode=.panicking chain'/\
  ((∃csB,cs'=csB++[poison]/\csB.length<cs.length/\fr'.defers=[]/\∀c∈csB,c.defers=[])\/(cs'=[]/\fr'.defers=poison.defers/\fr'.fn=poison.fn/\fr'.todo=[])):=by
 have hst : ∀ callers, stepG P true { frame := fr, callers := callers, status := .running, dying := none } w = if fr.catches P then .ended (.unsupported (.noEntry "a panic or Goexit out of a method that fmt calls behind a cut's door") (fr.pos P)) w else
  match callers with
  |caller::rest=>.go { frame:=caller.raise chain,callers:=rest,status:=.running,dying:=none } w
  |[]=>stepG P true { frame:=fr,callers:=[],status:=.running,dying:=none } w:=by
  intro callers;by_cases hcat:fr.catches P=true
  ·rw[if_pos hcat];unfold stepG;simp only[hm,unwind,hd,hcat,if_true]
  ·rw[if_neg hcat];cases callers with
   |nil=>rfl
   | cons c r =>
     unfold stepG;simp only[hm,unwind,hd,hcat,yH,if_false]
 by_cases hcat:fr.catches P=true
 ·exact .inl ⟨_,_,step_lone_ended (by rw[hst,if_pos hcat];rfl)⟩
 ·right;have hraise:∀c:Frame,∃chain',(c.raise chain).mode=.panicking chain'/\(c.raise chain).defers=c.defers/\(c.raise chain).fn=c.fn/\(c.raise chain).todo=c.todo:=fun c=>by
   unfold Frame.raise;split <;> exact⟨_,rfl,rfl,rfl,rfl⟩
  cases cs with
  | nil =>
    obtain⟨ch,h1,h2,h3,h4⟩:=hraise poison;exact⟨poison.raise chain,[],ch,step_lone_go (by rw[hst,if_neg hcat];rfl),h1,.inr ⟨rfl,h2,h3,h4⟩⟩
  | cons c cs =>
    obtain⟨ch,h1,h2,h3,h4⟩:=hraise c;exact⟨c.raise chain,cs++[poison],ch,step_lone_go (by rw[hst,if_neg hcat];rfl),h1,.inl ⟨cs,rfl,by simp,h2.trans (hc c (by simp)),fun c' hc'=>hc c' (by simp[hc'])⟩⟩
theorem qes{fr:Frame}{w:World}{m:FrameMode}(hm:fr.mode=m)(hnr:m≠.run)(hd:fr.defers=poison.defers):∃o w',step P (lone fr [] w)=.ended o w':=by
 have:∃o w' es,stepG P true { frame:=fr,callers:=[],status:=.running,dying:=none } w=.ended o w' es:=by
  unfold stepG;have hd':fr.defers=[{ target:=.builtin .make #[] 0 #[],args:=#[] }]:=hd;cases m with
  |run=>exact absurd rfl hnr
  | returning =>
    simp only[hm,unwind,hd',callDeferred,invoke,builtin,stuck,Sem.runT,GStep.after];exact⟨_,_,_,rfl⟩
  | panicking ch =>
    simp only[hm,unwind,hd',callDeferred,invoke,builtin,stuck,Sem.runT,GStep.after];exact⟨_,_,_,rfl⟩
 obtain⟨o,w',es,e⟩:=this;exact⟨o,w',step_lone_ended (by rw[e];rfl)⟩
theorem qv(n:Nat)(m:Machine):runN P (n+1) m=match step P m with | .next m=>runN P n m|e=>e:=rfl
theorem qaj{fr fr':Frame}{cs cs':List Frame}{w w':World}(h:lone fr cs w=lone fr' cs' w'):fr=fr'/\cs=cs'/\w=w':=by
 simp only[lone,Machine.mk.injEq,Array.mk.injEq,yar,Goroutine.mk.injEq] at h;exact⟨h.2.1.1.1,h.2.1.1.2.1,h.1⟩
theorem qcg:∀(n:Nat) {fr:Frame}{cs:List Frame}{chain:List PanicEntry}{w:World},fr.mode=.panicking chain->fr.defers=[]->(∀c∈cs,c.defers=[])->
 ∀{fr':Frame}{w':World},runN P n (lone fr (cs++[poison]) w)=.next (lone fr' [poison] w')->fr'.mode≠.returning
 | 0, fr, cs, chain, w, hm, hd, hc, fr', w', h => by
   injection h with h;obtain⟨rfl,_,_⟩:=qaj h;rw[hm];intro e;cases e
 | n + 1, fr, cs, chain, w, hm, hd, hc, fr', w', h => by
   rw[qv] at h;rcases qi7 (P:=P) (w:=w) hm hd hc with ⟨o,w1,e⟩|⟨fr1,cs1,ch,e,h1,⟨cs2,rfl,_,h3,h4⟩|⟨rfl,h3,h4,h5⟩⟩
   ·rw[e] at h;cases h
   ·rw[e] at h;exact qcg n h1 h3 h4 h
   ·rw[e] at h;cases n with
    | zero =>
      injection h with h;obtain⟨_,hcs,_⟩:=qaj h;cases hcs
    | succ n =>
      dsimp only at h;rw[qv] at h;obtain⟨o,w2,e2⟩:=qes (P:=P) (w:=w) h1 (by intro e;cases e) h3;rw[e2] at h;cases h
end
section
variable {P:Program}{F:Fam}{π:Perm}{fr:Frame}{cs rest:List Frame}{w wa:World}
def GoOrEnd(s:GStep):Prop:=(∃g w es,s=.go g w es)\/∃o w es,s=.ended o w es
theorem gs_go(g:Goroutine)(w:World)(es:Array Event):GoOrEnd (.go g w es):=.inl ⟨_,_,_,rfl⟩
theorem qb7(o:Outcome)(w:World)(es:Array Event):GoOrEnd (.ended o w es):=.inr ⟨_,_,_,rfl⟩
theorem qf7(hP:ProgOk P F)(h:Stand P F π fr cs w wa)(hns:¬(fr.mode=.returning/\cs=[])):GoOrEnd (stepG P true (G fr (cs++[poison])) w):=by
 rcases h.top.mode with hm|hm
 ·rw[qcz P true fr _ w hm];have hr:=h.top.round;unfold stepG.exec;cases ht:fr.todo with
  |nil=>simp only[hr];exact gs_go _ _ _
  | cons it k =>
    have hit:okItem P F it=true:=h.top.todo it (by rw[ht];simp);cases it with
    |inBlock id=>exact gs_go _ _ _
    |inScope c=>exact gs_go _ _ _
    |inLoop c=>exact gs_go _ _ _
    | inRegion ops todo =>
      cases todo with
      |nil=>exact gs_go _ _ _
      | cons i r =>
        dsimp only;split
        ·rename_i hw
         unfold stepG.oper Frame.oper?;simp only[ht];cases ho:ops[i]? with
         |none=>exact qb7 _ _ _
         | some o =>
           simp only[hr];have ok:okOp P F o.op=true:=yad.1 hit o (yaj ho);by_cases hpan:∃x,o.op=.panic x
           ·obtain⟨x,hx⟩:=hpan;obtain⟨y,w1,ev,hres,hy⟩:=qcq (P:=P) (ρ:=fr.eval) hx w #[];rcases hy with ⟨v,rfl⟩|⟨u,rfl⟩|⟨u,rfl,hu⟩
            ·rw[qau P fr _ w _ h.top.kind v w1 ev hres];exact gs_go _ _ _
            ·obtain⟨_,_,_,e⟩:=qav P fr (cs++[poison]) w _ h.top.kind u w1 ev hres;rw[e];exact qb7 _ _ _
            ·obtain⟨_,_,_,e⟩:=qaw P fr (cs++[poison]) w _ h.top.kind u w1 ev hu hres;rw[e];exact qb7 _ _ _
           obtain⟨hrun,_⟩:=qgu hP h ok fun x e=>hpan ⟨x,e⟩;cases hres:(execOp fr.eval o).runT P w #[] with
           | mk res ev =>
             cases res with
             | halt x w1 =>
               rcases qen hrun hres with ⟨v,rfl⟩|⟨u,rfl⟩|⟨u,rfl,hu⟩
               ·rw[qau P fr _ w _ h.top.kind v w1 ev hres];exact gs_go _ _ _
               ·obtain⟨_,_,_,e⟩:=qav P fr (cs++[poison]) w _ h.top.kind u w1 ev hres;rw[e];exact qb7 _ _ _
               ·obtain⟨_,_,_,e⟩:=qaw P fr (cs++[poison]) w _ h.top.kind u w1 ev hu hres;rw[e];exact qb7 _ _ _
             | ok n w1 =>
               have hkind:=qi6 ok (fun x hx fn a b e=>by
                obtain⟨f,rfl,hF⟩:=qao hP (qbx h.sup hx) e;obtain⟨fd,c,q1,q2,q4⟩:=hP.fn f hF;exact⟨f,fd,rfl,q1,by rw[q2];rfl,q4⟩) hres
               rcases hkind with ⟨v,rfl⟩|rfl|⟨f,args,rfl⟩
               ·rw[qa7 P fr _ w _ h.top.kind v w1 ev hres];exact gs_go _ _ _
               ·rw[qbl P fr _ w _ h.top.kind w1 ev hres];exact gs_go _ _ _
               ·rw[qat P fr _ w ops i r k _ ht h.top.kind f args w1 ev hres];exact gs_go _ _ _
        ·exact gs_go _ _ _
    | code c =>
      cases c with
      |skip=>exact gs_go _ _ _
      |label l=>exact gs_go _ _ _
      |seq a b=>exact gs_go _ _ _
      |block id c=>exact gs_go _ _ _
      |loop c=>exact gs_go _ _ _
      |scope c=>exact gs_go _ _ _
      |ret=>simp only[hr];exact gs_go _ _ _
      |refuse why=>exact qb7 _ _ _
      |rangeFunc f ps a b=>exact absurd hit (by simp[okItem,qrn])
      |cond c a b=>dsimp only;split;exact gs_go _ _ _;exact qb7 _ _ _
      | exit id =>
        dsimp only;cases exitTo id k with
        |none=>simp only[hr];exact qb7 _ _ _
        |some k'=>exact gs_go _ _ _
      | goto l =>
        dsimp only;cases gotoIn l k with
        |none=>simp only[hr];exact qb7 _ _ _
        |some k'=>exact gs_go _ _ _
      | region id ops draw =>
        dsimp only;split
        ·exact gs_go _ _ _
        ·split
         ·exact gs_go _ _ _
         ·exact qb7 _ _ _
    |_=>exact absurd hit (by simp[okItem])
 ·cases cs with
  |nil=>exact absurd ⟨hm,rfl⟩ hns
  | cons c cs =>
    obtain⟨fd,body,hfd,_⟩:=hP.fn fr.fn h.top.fn;cases hres:(results fd fr.tmps).runT P w #[] with
    | mk res ev =>
      cases res with
      | halt x w1 =>
        obtain⟨_,_,_,e⟩:=qai P true fr c (cs++[poison]) w w1 hm h.top.defers h.top.kind fd x ev hfd hres;rw[yah,e];exact qb7 _ _ _
      | ok v w1 =>
        rw[yah,qk P true fr c (cs++[poison]) w w1 hm h.top.defers h.top.kind fd v ev hfd hres];exact gs_go _ _ _
theorem qh0(hm:fr.mode=.returning)(hd:fr.defers=[])(hk:fr.kind=.normal){fd:Func}(hf:P.funcs[fr.fn]?=some fd)(n:Nat){fr':Frame}{w':World}:runN P (n+1) (lone fr [poison] w)≠.next (lone fr' [poison] w'):=by
 intro h;rw[qv] at h;cases hres:(results fd fr.tmps).runT P w #[] with
 | mk res ev =>
   cases res with
   | halt x w1 =>
     obtain⟨o,w2,es,e⟩:=qai P true fr poison [] w w1 hm hd hk fd x ev hf hres;rw[step_lone_ended (P:=P) (fr:=fr) (cs:=[poison]) (w:=w) (o:=o) (w':=w2) (by have:stepG P true { frame:=fr,callers:=[poison],status:=.running,dying:=none } w=_:=e;rw[this];rfl)] at h;cases h
   | ok v w1 =>
     have e:=qk P true fr poison [] w w1 hm hd hk fd v ev hf hres;rw[step_lone_go (P:=P) (fr:=fr) (cs:=[poison]) (w:=w) (fr':=poison) (cs':=[]) (w':=w1) (by have:stepG P true { frame:=fr,callers:=[poison],status:=.running,dying:=none } w=_:=e;rw[this];rfl)] at h;cases n with
     | zero =>
       injection h with h;obtain⟨_,hcs,_⟩:=qaj h;cases hcs
     | succ n =>
       dsimp only at h;rw[qv] at h;rw[step_lone_go (P:=P) (fr:=poison) (cs:=[]) (w:=w1) (fr':={ poison with mode:=.returning }) (cs':=[]) (w':=w1) (by rfl)] at h;cases n with
       | zero =>
         injection h with h;obtain⟨_,hcs,_⟩:=qaj h;cases hcs
       | succ n =>
         dsimp only at h;rw[qv] at h;obtain⟨o,w2,e2⟩:=qes (P:=P) (fr:={ poison with mode:=.returning }) (w:=w1) (m:=.returning) rfl (by intro e;cases e) rfl;rw[e2] at h;cases h
theorem Ran.tw(L:LeafLaw P F){π':Perm}{w' wa':World}(hr:Ran F π π' w wa w' wa')(h:L.T w):L.T w':=L.loc _ _ (fun b hb=>hr.base b (by omega)) h
theorem Ran.ta(L:LeafLaw P F){π':Perm}{w' wa':World}(hs:Sim F π w wa)(hr:Ran F π π' w wa w' wa')(h:L.T wa):L.T wa':=
 L.loc _ _ (fun b hb=>hr.frame b (by have:=hs.lowa;omega) fun r h8 _ e=>by
  have:=π.inj (e.trans (hs.ids b (by omega)).symm);omega) h
theorem qi8{T:World->Prop}{B:Nat}{fr fra:Frame}{v:Value}(hsl:Slides P T B fr fra v):∀(n:Nat) {c:Frame}{cs:List Frame}{w:World}{fr':Frame}{w':World},T w->cs≠[]->
 runN P n (lone fr (c::cs) w)=.next (lone fr' [poison] w')->∃m,m<n/\runN P m (lone (c.finish v) cs w)=.next (lone fr' [poison] w'):=by
 induction hsl with
 | @ret fr fra v fn fna hm hd hk hf hr =>
   intro n c cs w fr' w' hT hne hrun;cases n with
   | zero =>
     injection hrun with hrun;obtain⟨_,hcs,_⟩:=qaj hrun;simp only[yar] at hcs;exact absurd hcs.2 hne
   | succ n =>
     have e:=qk P true fr c cs w w hm hd hk fn v #[] hf (hr w hT);rw[qv,step_lone_go (P:=P) (fr:=fr) (cs:=c::cs) (w:=w) (fr':=c.finish v) (cs':=cs) (w':=w) (by have:stepG P true { frame:=fr,callers:=c::cs,status:=.running,dying:=none } w=_:=e;rw[this];rfl)] at hrun;exact⟨n,ybo n,hrun⟩
 | @step fr fra fr1 fra1 v es esa _ hs hsa he _ ih =>
   intro n c cs w fr' w' hT hne hrun;cases n with
   | zero =>
     injection hrun with hrun;obtain⟨_,hcs,_⟩:=qaj hrun;simp only[yar] at hcs;exact absurd hcs.2 hne
   | succ n =>
     rw[qv,step_lone_go (P:=P) (fr:=fr) (cs:=c::cs) (w:=w) (fr':=fr1) (cs':=c::cs) (w':=w) (by have:stepG P true { frame:=fr,callers:=c::cs,status:=.running,dying:=none } w=_:=hs w true (c::cs) hT;rw[this];rfl)] at hrun;obtain⟨m,hm,h⟩:=ih n hT hne hrun;exact⟨m,by omega,h⟩
theorem qh1{T:World->Prop}{B:Nat}{fr fra:Frame}{v:Value}(hsl:Slides P T B fr fra v){c:Frame}{cs:List Frame}{w:World}(hT:T w):Steps P (lone fra (c::cs) w) (lone (c.finish v) cs w):=by
 induction hsl with
 | @ret _ fr v _ fn _ _ _ _ _ hm hd hk hf hr =>
   refine Steps.head (step_lone_go ?_) (Steps.refl _ _);have:stepG P true { frame:=fr,callers:=c::cs,status:=.running,dying:=none } w=_:=qk P true fr c cs w w hm hd hk fn v #[] hf (hr w hT);rw[this];rfl
 | @step _ fr _ fr1 v _ es _ _ hs he _ ih =>
   refine Steps.head (step_lone_go ?_) ih;have:stepG P true { frame:=fr,callers:=c::cs,status:=.running,dying:=none } w=_:=hs w true (c::cs) hT;rw[this];rfl
theorem qet{T:World->Prop}{fr:Frame}(hst:Sticks P T fr):∀(n:Nat) {c:Frame}{cs:List Frame}{w:World}{fr':Frame}{w':World},T w->cs≠[]->
 runN P n (lone fr (c::cs) w)≠.next (lone fr' [poison] w'):=by
 induction hst with
 | @now fr hs =>
   intro n c cs w fr' w' hT hne hrun;cases n with
   | zero =>
     injection hrun with hrun;obtain⟨_,hcs,_⟩:=qaj hrun;simp only[yar] at hcs;exact absurd hcs.2 hne
   | succ n =>
     obtain⟨o,w1,es,e⟩:=hs w true (c::cs) hT;rw[qv,step_lone_ended (P:=P) (fr:=fr) (cs:=c::cs) (w:=w) (o:=o) (w':=w1) (by have:stepG P true { frame:=fr,callers:=c::cs,status:=.running,dying:=none } w=_:=e;rw[this];rfl)] at hrun;cases hrun
 | @step fr fr1 es hs _ ih =>
   intro n c cs w fr' w' hT hne hrun;cases n with
   | zero =>
     injection hrun with hrun;obtain⟨_,hcs,_⟩:=qaj hrun;simp only[yar] at hcs;exact absurd hcs.2 hne
   | succ n =>
     rw[qv,step_lone_go (P:=P) (fr:=fr) (cs:=c::cs) (w:=w) (fr':=fr1) (cs':=c::cs) (w':=w) (by have:stepG P true { frame:=fr,callers:=c::cs,status:=.running,dying:=none } w=_:=hs w true (c::cs) hT;rw[this];rfl)] at hrun;exact ih n hT hne hrun
theorem Stand.finish(h:Stand P F π fr cs w wa){ops:Array Oper}{i:Nat}{r:List Nat}{k:List Item}(ht:fr.todo=.inRegion ops (i::r)::k){v:Value}(hv:Sup F w.heap.size v):Stand P F π (fr.finish v) cs w wa:=by
 obtain⟨f1,f2⟩:=qbm h.top h.sup ht hv;exact⟨h.sim,h.shut,h.g,h.b,f1,f2,h.call⟩
theorem qoe(hP:ProgOk P F)(L:LeafLaw P F)(n:Nat):∀{π:Perm}{fr:Frame}{cs:List Frame}{w wa:World},Stand P F π fr cs w wa->L.T w->L.T wa->∀{fr':Frame}{w':World},runN P n (lone fr (cs++[poison]) w)=.next (lone fr' [poison] w')->fr'.mode=.returning->
 ∃π' wa',Steps P (lone (fr.pm π) (cs.map (Frame.pm π)++rest) wa) (lone (fr'.pm π') rest wa')/\Stand P F π' fr' [] w' wa'/\Ran F π π' w wa w' wa':=by
 induction n using Nat.strongRecOn with
 |_ n IH=>
 intro π fr cs w wa h hT hTa fr' w' hrun hret;cases n with
 | zero =>
   injection hrun with hrun;obtain⟨rfl,hcs,rfl⟩:=qaj hrun;have:cs=[]:=by
    cases cs with
    |nil=>rfl
    |cons c cs=>simp at hcs
   subst this;exact⟨π,wa,Steps.refl _ _,h,Ran.refl h.sim h.shut⟩
 | succ n =>
   by_cases hns:fr.mode=.returning/\cs=[]
   ·obtain⟨hm,rfl⟩:=hns;obtain⟨fd,body,hfd,_⟩:=hP.fn fr.fn h.top.fn;exact absurd hrun (qh0 hm h.top.defers h.top.kind hfd n)
   ·rw[qv] at hrun;rcases qf7 hP h hns with ⟨g1,w1,es,e⟩|⟨o,w1,es,e⟩
    ·rcases qgw (rest:=rest) hP h hns e with ⟨fr1,cs1,chain,rfl,d1,d2,d3⟩|⟨fr1,cs1,π1,wa1,es1,rfl,ha,hs,hr,_⟩|⟨f,args,π1,wa1,es1,hlf,hF,rfl,ha,hs,_,⟨ops,i,r,k,ht⟩,hr,_⟩
     ·rw[step_lone_go (P:=P) (fr':=fr1) (cs':=cs1++[poison]) (w':=w1) (by have:stepG P true { frame:=fr,callers:=cs++[poison],status:=.running,dying:=none } w=_:=e;rw[this];rfl)] at hrun;exact absurd hret (qcg n d1 d2 d3 hrun)
     ·rw[step_lone_go (P:=P) (fr':=fr1) (cs':=cs1++[poison]) (w':=w1) (by have:stepG P true { frame:=fr,callers:=cs++[poison],status:=.running,dying:=none } w=_:=e;rw[this];rfl)] at hrun;obtain⟨π',wa',hst,hs',hr'⟩:=IH n (ybo n) hs (hr.tw L hT) (hr.ta L h.sim hTa) hrun hret;refine⟨π',wa',Steps.head (step_lone_go ?_) hst,hs',hr.trans hr'⟩;have:stepG P true { frame:=fr.pm π,callers:=cs.map (Frame.pm π)++rest,status:=.running,dying:=none } wa=_:=ha true;rw[this];rfl
     ·rw[step_lone_go (P:=P) (fr':=Frame.enter P f args .normal) (cs':=fr::(cs++[poison])) (w':=w1) (by have:stepG P true { frame:=fr,callers:=cs++[poison],status:=.running,dying:=none } w=_:=e;rw[this];rfl)] at hrun;rcases L.law f args hlf hF with ⟨kd,x,hsl⟩|hst
      ·obtain⟨m,hm,hrun'⟩:=qi8 (hsl π1) n (hr.tw L hT) (by simp) hrun;obtain⟨π',wa',hst,hs',hr'⟩:=IH m (by omega) (hs.finish ht (v:=.int kd x) (fun σ _=>by simp)) (hr.tw L hT) (hr.ta L h.sim hTa) hrun' hret;refine⟨π',wa',Steps.head (step_lone_go (fr':=Frame.enter P f (args.map (Value.pm π1)) .normal) (cs':=fr.pm π1::(cs.map (Frame.pm π1)++rest)) (w':=wa1) ?_) ((qh1 (hsl π1) (hr.ta L h.sim hTa)).trans ?_),hs',hr.trans hr'⟩
       ·have:stepG P true { frame:=fr.pm π,callers:=cs.map (Frame.pm π)++rest,status:=.running,dying:=none } wa=_:=ha true;rw[this];rfl
       ·have:=qa6 π1 ht (.int kd x);simp only[qbd] at this;rw[this];exact hst
      ·exact absurd hrun (qet hst n (hr.tw L hT) (by simp))
    ·rw[step_lone_ended (P:=P) (o:=o) (w':=w1) (by have:stepG P true { frame:=fr,callers:=cs++[poison],status:=.running,dying:=none } w=_:=e;rw[this];rfl)] at hrun;cases hrun
end
end
end Go.Pm
