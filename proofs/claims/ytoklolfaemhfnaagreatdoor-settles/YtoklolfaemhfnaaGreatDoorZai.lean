import Derived.Conc.Own
import Derived.Test.YtoklolfaemhfnaaGreatDoorZah
set_option maxRecDepth 100000
set_option maxHeartbeats 0
set_option linter.defProp false
namespace Go.Pm
section
open Go Go.Conc
variable {F:Fam}{n i:Nat}{fr:Frame}{w w' wa:Δ}{U π':Perm}{es' es:Array Event}{x:Halt}{v:Θ}{ops:Array Oper}{rest:Ϙ}{k:List Item}
section
variable{M K:Type}{P:ϛ}
inductive KE:Result M×Array Event->Result M×Array Event->Prop
 |ok (a:M) (w:Δ) (es:Array Event):KE (.ok a w,es) (.ok a w,es)
 |halt (x:Halt) (w:Δ) (es:Array Event):KE (.halt x w,es) (.halt x w,es)
 |er (x:Halt) (w:Δ) (es:Array Event):KE (.halt x.er w,es) (.halt x w,es)
theorem KE.a(r:Result M×Array Event):KE r r:=by let⟨r,a⟩:=r;cases r;exact .ok _ _ _;exact .halt _ _ _
def mS(s:Sem M):∀(w:Δ)(d:Array Event),KE ((s.bz P).runT P w d) (s.runT P w d):=by
 induction s with
 |pure a=>intro w d;exact .ok _ _ _
 |halt h=>intro w d;exact .er _ _ _
 |program k b=>intro w d;exact b P w d
 |mark m k b=>intro w d;exact b _ _
 |freeze a n k b=>intro w d;exact b _ _
 |shape r k b=>intro w d;exact b _ _ _
 |frozen r k b=>intro w d;exact b _ _ _
 |new o k b=>intro w d;exact b _ _ _
 |sys c k b=>intro w d;exact b _ _ _
 |choose q k b=>intro w d;simp only[Sem.bz,Sem.runT];split<;>exact b _ _ _
 |load m a k b=>
  intro w d;simp only[Sem.bz,Sem.runT];split;exact b _ _ _;split;exact b _ _ _;grind[KE.a]
 |getObj r k b=>
  intro w d;simp only[Sem.bz,Sem.runT];split;exact KE.a _;exact b _ _ _;grind[KE.a]
 |setObj r o k b=>
  intro w d;simp only[Sem.bz,Sem.runT];split;exact KE.a _;exact b _ _;grind[KE.a]
 |store m a v k b=>
  intro w d;by_cases f:(∀c,v≠.agg c)/\∀c,v≠.tuple c
  .simp only[Sem.bz];rw[cF f,cF f];split;split;exact KE.a _;exact b _ _;split;exact b _ _;grind[KE.a]
  cases v<;>first|exact KE.a _|exact absurd (And.intro (λc e=>(by cases e)) λc e=>(by cases e)) f
def j5{s:Sem M}{a:M}(h:s.runT P w es=(.ok a w',es')):(s.bz P).runT P w es=(.ok a w',es'):=by have:=mS (P:=P) s w es;rw[h]at this;generalize (s.bz P).runT P w es=r at this;cases this;rfl
def j4{s:Sem M}{a:M}(h:(s.bz P).runT P w es=(.ok a w',es')):s.runT P w es=(.ok a w',es'):=by have:=mS (P:=P) s w es;rw[h]at this;generalize s.runT P w es=r at this;cases this;rfl
def Bf{s:Sem M}(h:s.runT P w es=(.halt x w',es')):∃y,(s.bz P).runT P w es=(.halt y w',es')/\(y=x\/y=x.er):=by have:=mS (P:=P) s w es;rw[h]at this;generalize (s.bz P).runT P w es=r at this;cases this;simp;simp
def Fy{y:Halt}(e:y=x\/y=x.er)(h:(∃v,y=.panic v)\/(∃u,y=.stuck u)\/∃u,y=.unsupported u/\∀g,u≠.initOrder g):(∃v,x=.panic v)\/(∃u,x=.stuck u)\/∃u,x=.unsupported u/\∀g,u≠.initOrder g:=by rcases e with rfl|rfl;exact h;cases x<;>first|exact .inl ⟨_,rfl⟩|exact h
def mP{H:Perm->M->M}{s:Sem M}(h:ec P F H U w wa (s.bz P))(b:s.runT P w #[]=(.halt x w',es')):(∃v,x=.panic v)\/(∃u,x=.stuck u)\/∃u,x=.unsupported u/\∀g,u≠.initOrder g:=
 let ⟨y,a,e⟩:=Bf b
 Fy e ((h #[] #[]).2 y w' es' a)
def cE{f:M->K}(s:Sem M):∀{w w':Δ}{es es':Array Event}{n:K},(s.bind λa=>.pure (f a)).runT P w es=(.ok n w',es')->∃a,n=f a:=by
 induction s with
 |pure a=>
  intro w w' es es' n h;simp only[Sem.bind,Sem.runT,CN,Result.ok.injEq]at h;grind
 |halt x=>intro w w' es es' n h;simp only[Sem.bind,Sem.runT,CN]at h;cases h.1
 |program k b=>intro w w' es es' n h;exact b P h
 |mark m k b=>intro w w' es es' n h;exact b h
 |freeze a n k b=>intro w w' es es' n h;exact b h
 |shape r k b=>intro w w' es es' n h;exact b _ h
 |frozen r k b=>intro w w' es es' n h;exact b _ h
 |new o k b=>intro w w' es es' n h;exact b _ h
 |sys c k b=>intro w w' es es' n h;exact b _ h
 |choose q k b=>
  intro w w' es es' n h;simp only[Sem.bind,Sem.runT]at h;grind
 |load m a k b=>
  intro w w' es es' n h;simp only[Sem.bind,Sem.runT]at h;grind
 |getObj r k b=>
  intro w w' es es' n h;simp only[Sem.bind,Sem.runT]at h;grind
 |setObj r o k b=>
  intro w w' es es' n h;simp only[Sem.bind,Sem.runT]at h;grind
 |store m a v k b=>
  intro w w' es es' n h;by_cases d:(∀c,v≠.agg c)/\∀c,v≠.tuple c;simp only[Sem.bind]at h;grind[cF];cases v<;>first|(simp only[Sem.bind,Sem.runT,CN]at h;cases h.1)|grind
end
def dd:Operand->Bool
 |.const (.bool false)=>true
 |_=>false
def cC(P:ϛ)(F:Nat->Bool):Code->Bool
 |.region _ ops _=>ops.all λo=>uH P F o.op
 |.seq a b=>cC P F a&&cC P F b
 |.cond c a b=>(dd c||(Be P F c&&cC P F a))&&cC P F b
 |.block _ c|.loop c|.scope c=>cC P F c
 |.rangeFunc ..=>false
 |_=>true
def cD(P:ϛ)(F:Nat->Bool):Item->Bool
 |.code c|.inLoop c|.inScope c=>cC P F c
 |.inBlock _=>true
 |.inRegion ops _=>ops.all λo=>uH P F o.op
 |_=>false
structure bL(P:ϛ)(F:Fam):Prop where
 flat:∀t i v,P.info? t=some i->i.zero=some v->∀C:Perm,v.pm C=v
 a:∀f,F f=true→∃fd c,P.funcs[f]? =some fd∧fd.body=some c∧(fd.name== "runtime.NumGoroutine")=false
 b:∀f fd c,F f=true->F.leaf f=false->P.funcs[f]?=some fd->fd.body=some c->cC P F c=true
 d:∀f,F f=true->f<P.funcs.size
 gs:F.gs=P.globals.size
structure fF(P:ϛ)(F:Fam)(fr:Frame):Prop where
 mode:fr.mode=.run\/fr.mode=.returning
 defers:fr.defers=[]
 kind:fr.kind=.normal
 round:fr.roundOf=none
 todo:∀i∈fr.todo,cD P F i=true
 fn:F fr.fn=true
 leaf:F.leaf fr.fn=false
def _root_.Go.Frame.pm(U:Perm)(fr:Frame):Frame:={fr with tmps:=fr.tmps.map U.v}
def fC(F:Fam)(n:Nat)(fr:Frame):Prop:=∀C,cG F n C->fr.tmps.map C.v=fr.tmps
def Sup(F:Fam)(n:Nat)(v:Θ):Prop:=∀C,cG F n C->v.pm C=v
def fC.get(h:fC F n fr)(t:Nat):Sup F n (fr.tmps.getD t undef):=by intro b a;have:=congrArg (λx=>x.getD t undef) (h b a);simp only[ya,yw]at this|-;rcases c:fr.tmps[t]? with _|v;simp[undef];grind
def kD{P:ϛ}(c:∀f,F f=true->U.g f=f)(b:Frame){x:Operand}(a:Be P F x=true):(b.pm U).eval x=(b.eval x).pm U:=by
 cases x with
 |tmp t=>
  simp only[Frame.eval,Frame.pm,ya,yw];cases b.tmps[t]? <;>simp[undef]
 |const v=>exact(lN U v a).symm
 |global g=>cases a
 |func f=>simp[Frame.eval,Fn.pm,c f a]
def fZ{P:ϛ}(h:fC F n fr){x:Operand}(a:Be P F x=true):Sup F n (fr.eval x):=by
 cases x with
 |tmp t=>exact h.get t
 |const v=>exact λc _=>lN c v a
 |global g=>cases a
 |func f=>intro c b;simp[Frame.eval,Fn.pm,b.2.1 f a]
def dw{P:ϛ}(q:bL P F)(h:Sup F n v){g:Fn}{a b:ϡ}(p:v=.func g a b):∃f,g=.func f/\F f=true:=by
 subst p;by_cases l:∃f,g=.func f
 .obtain⟨f,rfl⟩:=l;refine⟨f,rfl,?_⟩;cases r:F f with
  |true=>rfl
  |false=>
   let m:=f+P.funcs.size+1
   have s:F m=false:=by cases j:F m;rfl;have:=q.d m j;lia
   let o:={Perm.id with
    g:=λx=>if x=f then m else if x=m then f else x
    j:=λx=>if x=f then m else if x=m then f else x
    e:=λx=>ν
    d:=λx=>by grind}
   have d:cG F n o:=⟨λ_ _ _=>rfl,λx j=>by grind,λ_=>yK⟩
   have:=h o d;grind[sI,Fn.pm]
 exfalso
 have c:=λf e=>l ⟨f,e⟩;have:=h _ (fG F n);simp only[sI,Value.func.injEq]at this;rw[jy _ c]at this;exact A4 c this.1
def oZ(m:∀r,U.f r<F.gs↔r<F.gs)(c:∀r,π'.f r<F.gs↔r<F.gs)(l:∀r,r<n->π'.f r=U.f r)(e:π'.g=U.g/\π'.h=U.h/\π'.b=U.b)(o:Sup F n v):v.pm π'=v.pm U:=by
 have a:cG F n (U.MS.Mg π'):=⟨λr _ d=>by show U.i _=r;grind[Perm.a],λf _=>by show U.j _=f;rw[e.1,U.d],λr=>by show U.i _<F.gs↔r<F.gs;grind[Perm.c]⟩
 rw[<-nw U π',<-pm_comp,o _ a]
def ny(o:∀r,U.f r<F.gs↔r<F.gs)(a:∀r,π'.f r<F.gs↔r<F.gs)(l:∀r,r<n->π'.f r=U.f r)(j:π'.g=U.g/\π'.h=U.h/\π'.b=U.b)(d:fC F n fr):fr.pm π'=fr.pm U:=by
 have:fr.tmps.map π'.v=fr.tmps.map U.v:=by apply Array.map_congr_left;intro v p;refine oZ o a l j λe c=>?_;obtain⟨i,m,rfl⟩:=Array.mem_iff_getElem.1 p;have:=congrArg (λx=>x[i]?) (d e c);simp only[yw,yl m,yp,yA]at this;exact this
 grind[Frame.pm]
def fC.a{m:Nat}(h:fC F n fr)(b:n<=m):fC F m fr:=λc a=>h c (a.b b)
def fC.put(h:fC F n fr)(f:Sup F n v)(d:Nat)(b:List Item):fC F n {fr with tmps:=fr.tmps.setIfInBounds d v,todo:=b}:=by
 intro c a;apply LN;intro j;have:=congrArg (λx=>x[j]?) (h c a);simp only[yw,LK]at this|-;by_cases e:d=j
 .subst e;simp only[if_true];split<;>simp[f c a]
 grind
def il(a:fr.todo=.inRegion ops (i::rest)::k)(v:Θ):fr.finish v={fr with tmps:=(match (ops[i]?).bind (·.dst)with|some d=>fr.tmps.setIfInBounds d v|none=>fr.tmps),todo:=.inRegion ops rest::k}:=by
 unfold Frame.finish;grind
def eE(a:Perm)(b:fr.todo=.inRegion ops (i::rest)::k)(v:Θ):(fr.pm a).finish (v.pm a)=(fr.finish v).pm a:=by
 rw[il b,il (by exact b)];simp only[Frame.pm];cases (ops[i]?).bind _ with
 |none=>rfl
 |some d=>simp
def ai:Frame:={(default:Frame)with fn:=0,tmps:=#[],todo:=[],defers:=[{target:=.builtin .make #[] 0 #[],args:=#[]}],mode:=.run,kind:=.normal}
def Da(g:Ϛ):Prop:=∃fr cs chain,g=G fr (cs++[ai])/\fr.mode=.panicking chain/\fr.defers=[]/\∀c∈cs,c.defers=[]
structure bY(P:ϛ)(F:Fam)(U:Perm)(fr:Frame)(cs:List Frame)(w wa:Δ):Prop where
 d:Sim F U w wa
 e:Shut F w
 g:∀f,U.g f=f
 b:U.b=false
 a:fF P F fr
 h:fC F w.heap.size fr
 j:∀c∈cs,fF P F c/\fC F w.heap.size c/\c.mode=.run/\∃ops i rest k,c.todo=.inRegion ops (i::rest)::k
def bY.o{P:ϛ}(c:bL P F){d:List Frame}(h:bY P F U fr d w wa):dE P U:=
 ⟨λr=>c.gs▸h.d.b r,λt i v a b=>c.flat t i v a b U⟩
def iA{P:ϛ}(d:bL P F){c:Perm}(h:cG F n c):dE P c:=
 ⟨λr=>d.gs▸h.2.2 r,λt i v a b=>d.flat t i v a b c⟩
inductive fW(P:ϛ)(T:Ξ)(B:Nat):Frame->Frame->Θ->Prop
 |ret {fr fra:Frame}{v:Θ}{fn fna:Func} (hm:fr.mode=.returning) (hd:fr.defers=[]) (hk:fr.kind=.normal) (hf:P.funcs[fr.fn]?=some fn) (hr:∀w,T w->(results fn fr.tmps).runT P w #[]=(.ok v w,#[]))
  (hma:fra.mode=.returning) (hda:fra.defers=[]) (hka:fra.kind=.normal) (hfa:P.funcs[fra.fn]?=some fna) (hra:∀w,T w->(results fna fra.tmps).runT P w #[]=(.ok v w,#[])):fW P T B fr fra v
 |step {fr fra fr' fra':Frame}{v:Θ}{es esa:Array Event} (hm:fr.mode=.run) (hs:∀w main cs,T w->stepG P main (G fr cs) w=.go (G fr' cs) w es) (hsa:∀w main cs,T w->stepG P main (G fra cs) w=.go (G fra' cs) w esa)
  (he:∀e∈esa,∃a:Addr,e=⟨.cell a,false,false⟩/\a.block<B) (h:fW P T B fr' fra' v):fW P T B fr fra v
inductive kW(P:ϛ)(T:Ξ):Frame->Prop
 |now {fr:Frame} (hs:∀w main cs,T w->∃o w' es,stepG P main (G fr cs) w=.ended o w' es):kW P T fr
 |step {fr fr':Frame}{es:Array Event} (hs:∀w main cs,T w->stepG P main (G fr cs) w=.go (G fr' cs) w es) (h:kW P T fr'):kW P T fr
structure da(P:ϛ)(F:Fam)where
 T:Ξ
 a:∀w w',(∀b,b<F.gs->w'.heap[b]?=w.heap[b]?)->T w->T w'
 c:∀f args,F.leaf f=true->F f=true->(∃k x,∀U:Perm,fW P T F.gs (Frame.enter P f args .normal) (Frame.enter P f (args.map U.v) .normal) (.int k x))\/kW P T (Frame.enter P f args .normal)
end
end Go.Pm
namespace Go.Cr
section
open Go Go.Pm
def lI(i:TypeInfo):Prop:=∀v,i.zero=some v->∀C:Perm,v.pm C=v
def re{M K:Type}(I:K->Prop)(f:M->K->Option (ForInStep K))(hf:∀a b,I b->(∀b',f a b=some (.yield b')->I b')/\(∀b',f a b=some (.done b')->I b')):∀(l:List M)(b r:K),I b->forIn l b f=some r->I r
 |[],b,r,hb,h=>by simp only[List.forIn_nil,pure,yA]at h;exact h▸hb
 |a::l,b,r,hb,h=>by
   rw[List.forIn_cons]at h;let⟨s,hs,h⟩:=yO.1 h;cases s with
   |done b'=>
    simp only[pure,yA]at h;exact h▸(hf a b hb).2 b' hs
   |yield b'=>exact re I f hf l b' r ((hf a b hb).1 b' hs) h
def uh{info:ϟ->Option TypeInfo}(hinfo:∀t i,info t=some i->lI i){fs:Array Field}{i:TypeInfo}(h:Made.reckonStruct info fs=some i):lI i:=by
 unfold Made.reckonStruct at h;simp only[bind,pure,yO]at h;let⟨r,hr,h⟩:=h;have hI:∀zs,r.2.2.2.2.2.2.2.1=some zs->∀C:Perm,zs.map C.v=zs:=by
  rw[<-Lh]at hr;refine re (λs=>∀zs,s.2.2.2.2.2.2.2.1=some zs->∀C:Perm,zs.map C.v=zs) _ (λf b hb=>⟨λb' hx=>?_,λb' hx=>?_⟩) _ _ _ ?_ hr
  .let⟨i,hi,hx⟩:=yO.1 hx;have hfl:=hinfo _ _ hi;have key:∀zs,(if b.2.1+i.size>Made.mostCells then none else b.2.2.2.2.2.2.2.1.bind λz=>i.zero.bind λz1=>some (z++z1.cells))=some zs->∀C:Perm,zs.map C.v=zs:=by intro zs hz C;split at hz;cases hz;let⟨z,h1,hz⟩:=yO.1 hz;let⟨z1,h2,hz⟩:=yO.1 hz;cases hz;have e1:=hb z h1 C;have e2:=congrArg Value.cells (hfl z1 h2 C);rw[ed]at e2;rw[IY,e1,e2]
   repeat' split at hx
   all_goals first|(cases hx;done)|skip
   all_goals (try (let⟨tag,_,hx⟩:=yO.1 hx))
   all_goals (repeat' split at hx)
   all_goals first|(cases hx;done)|skip
   all_goals (simp only[yA,ForInStep.yield.injEq]at hx;subst hx;intro zs hz C;refine key zs ?_ C;first|exact hz|(rwa [if_neg (by assumption)])|(rwa [if_pos (by assumption)]))
  .exfalso
   let⟨i,hi,hx⟩:=yO.1 hx;repeat' split at hx;all_goals first|(cases hx;done)|skip
   all_goals (try (let⟨tag,_,hx⟩:=yO.1 hx))
   all_goals (repeat' split at hx)
   all_goals cases hx
  intro zs hz C;simp only[yA]at hz;subst hz;simp
 intro v hv C;have hz:Option.map Value.agg r.2.2.2.2.2.2.2.1=some v:=by split at h<;>(simp only[yA]at h;subst h;exact hv)
 obtain⟨zs,h1,rfl⟩:=yE.1 hz;have:=hI zs h1 C;simp[this]
def ug{info:ϟ->Option TypeInfo}(hinfo:∀t i,info t=some i->lI i){d:TypeDesc}{i:TypeInfo}(h:Made.reckon info d=some i):lI i:=by
 unfold Made.reckon at h;cases d with
 |struct fs=>exact uh hinfo h
 |pointer e=>
  simp only[bind,pure,yO]at h;let⟨i',_,h⟩:=h;have hw:∀s,lI (Made.word (.pointer e) s (.pointer none) true):=λs v hv C=>by simp only[Made.word,yA]at hv;subst hv;simp
  split at h;cases h;split at h;cases h;let⟨s,_,h⟩:=yO.1 h;cases h;exact hw _;let⟨s,_,h⟩:=yO.1 h;cases h;exact hw _
 |slice e=>
  simp only[bind,pure,yO]at h;let⟨_,_,_,_,h⟩:=h;cases h;intro v hv C;simp only[Made.word,yA]at hv;subst hv;simp
 |map k e=>
  simp only[bind,pure,yO]at h;let⟨_,_,_,_,_,_,_,_,h⟩:=h;cases h;intro v hv C;simp only[Made.word,yA]at hv;subst hv;simp
 |chan dir e=>
  simp only[bind,pure,yO]at h;let⟨_,_,_,_,h⟩:=h;cases h;intro v hv C;simp only[Made.word,yA]at hv;subst hv;simp
 |func ps rs vr=>
  simp only[bind,pure,yO]at h;let⟨_,_,h⟩:=h;cases h;intro v hv C;simp only[Made.word,yA]at hv;subst hv;simp
 |array n e=>
  simp only[bind,pure,yO]at h;let⟨i',hi,_,_,h⟩:=h;cases h;intro v hv C;simp only at hv;split at hv;cases hv;split at hv;cases hv;simp;obtain⟨z,h1,rfl⟩:=yE.1 hv;have e2:=congrArg Value.cells (hinfo _ _ hi z h1 C);rw[ed]at e2;simp[Array.map_flatten,e2]
 |_=>cases h
def qZ{T:Tables}(hT:∀i∈T.types,lI i):∀(n:Nat)(t:ϟ)(i:TypeInfo),Made.infoAt T n t=some i->lI i
 |0,t,i,h=>by cases h
 |n+1,t,i,h=>by unfold Made.infoAt at h;split at h;exact hT i (yaj h);let⟨d,_,h⟩:=yO.1 h;exact ug (qZ hT n) h
def CY{T:Tables}(hT:∀i∈T.types,lI i){t:ϟ}{i:TypeInfo}(h:T.info? t=some i):lI i:=by unfold Tables.info? at h;split at h;exact hT i (yaj h);exact qZ hT _ t i h
end
end Go.Cr
namespace Go.Pm
section
open Go Go.Conc
variable {P:ϛ}{F:Nat->Bool}{U:Perm}{l:Nat}
def eS(P:ϛ)(a:Frame)(b:List Frame)(w:Δ)(s:Sem Next)(e:a.kind=.normal)(v d c)(h:s.runT P w #[]=(.ok (.value v) d,c)):stepG.apply P true a b none s w=.go (G (a.finish v) b) d (seen P a.fn c):=by unfold stepG.apply;simp only[if_true,h,e,GStep.after,Hr];rfl
def fY(P:ϛ)(a:Frame)(b:List Frame)(w:Δ)(s:Sem Next)(e:a.kind=.normal)(d c)(h:s.runT P w #[]=(.ok .skip d,c)):stepG.apply P true a b none s w=.go (G (a.finish undef) b) d (seen P a.fn c):=by unfold stepG.apply;simp only[if_true,h,e,GStep.after,Hr];rfl
def dT(P:ϛ)(b:Frame)(e:List Frame)(w:Δ)(d i c k)(s:Sem Next)(m:b.todo=.inRegion d (i::c)::k)(n:b.kind=.normal)(f a j g)(h:s.runT P w #[]=(.ok (.enter f a) j,g)):stepG.apply P true b e none s w=.go (G (Frame.enter P f a .normal) (b::e)) j (seen P b.fn g):=by unfold stepG.apply;simp only[if_true,h,n,GStep.after,Hr,m];rfl
def dU(P:ϛ)(a:Frame)(b:List Frame)(w:Δ)(s:Sem Next)(e:a.kind=.normal)(v d c)(h:s.runT P w #[]=(.halt (.panic v) d,c)):stepG.apply P true a b none s w=.go (G (a.raise [{v,recovered:=false}]) b) d (seen P a.fn c):=by unfold stepG.apply;simp only[if_true,h,e,GStep.after,Hr];rfl
def dV(P:ϛ)(c:Frame)(d:List Frame)(w:Δ)(s:Sem Next)(g:c.kind=.normal)(v f e)(h:s.runT P w #[]=(.halt (.stuck v) f,e)):∃o b a,stepG.apply P true c d none s w=.ended o b a:=by unfold stepG.apply;simp only[if_true,h,g,GStep.after,Hr];simp
def dW(P:ϛ)(c:Frame)(d:List Frame)(w:Δ)(s:Sem Next)(i:c.kind=.normal)(u f e)(j:∀g,u≠.initOrder g)(h:s.runT P w #[]=(.halt (.unsupported u) f,e)):∃o b a,stepG.apply P true c d none s w=.ended o b a:=by unfold stepG.apply;simp only[if_true,h,i,GStep.after,Hr];cases u<;>first|exact⟨_,_,_,rfl⟩|exact absurd rfl _
def aW(P:ϛ)(b:Bool)(a c:Frame)(d:List Frame)(w f:Δ)(m:a.mode=.returning)(j:a.defers=[])(k:a.kind=.normal)(g v e)(i:P.funcs[a.fn]?=some g)(h:(results g a.tmps).runT P w #[]=(.ok v f,e)):stepG P b (G a (c::d)) w=.go (G (c.finish v) d) f (seen P a.fn e):=by unfold stepG G;simp only[m,unwind,j,i,h,doReturn,k,GStep.after,Hr]
def dx(P:ϛ)(b:Bool)(a c:Frame)(j:List Frame)(w m:Δ)(p:a.mode=.returning)(i:a.defers=[])(n:a.kind=.normal)(f x k)(g:P.funcs[a.fn]?=some f)(h:(results f a.tmps).runT P w #[]=(.halt x m,k)):∃o e d,stepG P b (G a (c::j)) w=.ended o e d:=by unfold stepG G;simp only[p,unwind,i,g,h,doReturn,n,GStep.after];cases x<;>exact⟨_,_,_,rfl⟩
def j6(P:ϛ)(a:Bool)(b:Frame)(c:List Frame)(w:Δ)(d:b.mode=.run):stepG P a (G b c) w=stepG.exec P a true b c none w:=by unfold stepG G;simp only[d]
theorem jB(P:ϛ)(n:FuncId)(j:Array Event):∀e∈seen P n j,e∈j:=by
 unfold seen;obtain⟨l⟩:=j;have i:∀(l:List _)(q:Bool)(b:Array _)(T:Ϥ),(∀e∈b,T e)->(∀e∈l,T e)->
  ∀e∈(l.foldl (λx e=>match e.loc with|.mark (.extern f)=>((P.funcs[f]?).any (·.norace),x.2)|_=>(x.1,if x.1&& !e.sync then x.2 else x.2.push e)) (q,b)).2,T e:=by
  intro l;induction l with
  |nil=>simp
  |cons a l k=>
   intro q b T g m;simp only[List.foldl_cons];have o:=m a ς;have d:∀e∈l,T e:=λe c=>m e (by simp[c]);split;exact k _ _ T g d;refine k _ _ T ?_ d;grind
 intro e c;simp only[List.foldl_toArray]at c;have:=i l ((P.funcs[n]?).any _) #[] (λe=>e∈l) ς (λe h=>h) e c;grind
def eU{F:Fam}{a:FuncId}{n:Nat}{d:Array Event}(h:∀e∈d,fX F U n e):∀e∈seen P a (#[]++d),fX F U n e:=λe b=>h e (by grind[jB])
def sC:∀{c d:Code},cC P F c=true->findLabel c l=some d->cC P F d=true:=by
 intro c;induction c with
 |seq a b e f=>
  intro d g h;simp only[cC,yB]at g;simp only[findLabel]at h;cases i:findLabel a l with
  |some r=>rw[i]at h;cases h;simp_all[cC]
  |none=>grind
 |label m=>
  intro d _ h;simp only[findLabel]at h;split at h;cases h;rfl;grind
 |_=>intro d _ h;simp[findLabel]at h
def mM{e:Nat}:∀{k b:List Item},(∀i∈k,cD P F i=true)->exitTo e k=some b->∀i∈b,cD P F i=true
 |[],b,_,h=>by simp[exitTo]at h
 |x::k,b,d,h=>by
   have a:∀i∈k,cD P F i=true:=λi c=>d i (by simp[c]);cases x<;>simp only[exitTo]at h<;>first|exact mM a h|skip
   split at h;grind;exact mM a h
def mO:∀{k e:List Item},(∀i∈k,cD P F i=true)->gotoIn l k=some e->∀i∈e,cD P F i=true
 |[],e,_,h=>by simp[gotoIn]at h
 |x::k,e,g,h=>by
   have d:∀i∈k,cD P F i=true:=λi c=>g i (by simp[c]);cases x<;>simp only[gotoIn]at h<;>first|exact mO d h|skip
   rename_i a
   rcases f:findLabel a l with _|r;rw[f]at h;exact mO d h;rw[f]at h;cases h;have b:=g (.inScope a) ς;intro i c;simp only[yF]at c;rcases c with rfl|rfl|c
   exact sC b f;grind;grind
def xB(c:Perm)(b:Array Oper)(a:ϡ):yielded b (a.map c.v)=yielded b a:=by
 funext j;unfold yielded;cases (b[j]?).bind _ with
 |none=>rfl
 |some d=>
  simp only[Option.bind_some,yw];cases a[d]? with
  |none=>rfl
  |some v=>cases v<;>simp
def sF{y:Operand→Value}{o:Oper}(j:uH P F o.op=true)(A:∀x,Be P F x=true→∀D a b,y x=.func D a b→∃f z,D=.func f∧P.funcs[f]? =some z∧z.body.isSome=true∧(z.name== "runtime.NumGoroutine")=false){w p:World}{u g:Array Event}{n:Next}(h:(execOp y o).runT P w u=(.ok n p,g)):(∃v,n=.value v)∨n=.skip∨∃f d,n=.enter f d:=by
 unfold uH at j;rw[yB]at j;let⟨N,j⟩:=j;have i:=λx B=>Ku.1 N x B;unfold execOp at h;have I:∀{s:Sem Θ},(s.bind λa=>Sem.pure (Next.value a)).runT P w u=(.ok n p,g)->(∃v,n=.value v)\/n=.skip\/∃f d,n=.enter f d:=λh=>.inl (cE _ h);have L:∀{s:Sem Unit},(s.bind λ_=>Sem.pure Next.skip).runT P w u=(.ok n p,g)->(∃v,n=.value v)\/n=.skip\/∃f d,n=.enter f d:=λh=>.inr (.inl (let ⟨_,e⟩:=cE _ h;e));have C:∀{v:Θ},(Sem.pure (Next.value v)).runT P w u=(.ok n p,g)->(∃v,n=.value v)\/n=.skip\/∃f d,n=.enter f d:=λh=>by simp only[Sem.runT,CN,Result.ok.injEq]at h;grind
 cases q:o.op with
 |nilCheck x=>
  rw[q]at h i;have B:=A x (i x (by simp[Op.operands]));dsimp only at h;generalize y x=v at h B;cases v with
  |func D a b=>
   obtain⟨f,z,rfl,_⟩:=B _ _ _ rfl;exact C h
  |pointer a=>
   rcases a with _|a;exact .inl (by let⟨_,e⟩:=cE (f:=Next.value) (Go.runtimePanic .nilDeref:Sem Θ) (n:=n) h;grind);exact C h
  |nilIface=>exact .inl (by let⟨_,e⟩:=cE (f:=Next.value) (Go.runtimePanic .nilDeref:Sem Θ) (n:=n) (w:=w) (w':=p) (es:=u) (es':=g) h;grind)
  |nilFunc=>exact .inl (by let⟨_,e⟩:=cE (f:=Next.value) (Go.runtimePanic .nilDeref:Sem Θ) (n:=n) (w:=w) (w':=p) (es:=u) (es':=g) h;grind)
  |_=>exact C h
 |call c=>
  rw[q]at h i j;dsimp only at h j;unfold resolve at h;cases E:c.callee with
  |value f=>
   rw[E]at h;have K:=A f (i f (by simp[Op.operands,Call.operands,E]));dsimp only at h;generalize y f=v at h K;cases v with
   |func D a b=>
    obtain⟨O,z,rfl,H,Q,M⟩:=K _ _ _ rfl;have e:(callFunc O (a++c.args.map y++b)).runT P w u=(.ok n p,g):=h;unfold callFunc at e;simp only[program,Bind.bind,Sem.bind,Sem.runT,H,M,yH,if_false]at e;rw[if_neg (by cases B:z.body<;>simp_all:¬z.body.isNone=true)]at e;simp only[Pure.pure,Sem.runT,CN,Result.ok.injEq]at e;grind
   |nilFunc=>exact .inl (by let⟨_,e⟩:=cE (f:=Next.value) (Go.runtimePanic .nilDeref:Sem Θ) (n:=n) (w:=w) (w':=p) (es:=u) (es':=g) h;grind)
   |_=>cases h
  |invoke r m=>grind
  |builtin b=>
   rw[E]at h j;dsimp only at h j;cases b<;>first|exact I h|grind[rp]
 |pick c a b=>rw[q]at h;exact .inl (by let⟨_,e⟩:=cE (f:=λt:Bool=>Next.value (if t then y a else y b)) (asBool (y c)) h;grind)
 |move x=>rw[q]at h;exact C h
 |assign x=>rw[q]at h;exact C h
 |store t a x=>rw[q]at h;exact L h
 |mapUpdate t m k x=>rw[q]at h;exact L h
 |insert t m k x=>grind
 |entryStore t m k x=>grind
 |_=>rw[q]at h j;first|exact I h|cases j
def ay.z(S:dE P U)(d:Func)(b:ϡ):ay P U U.v (Go.results d (b.map U.v)) (Go.results d b):=by
 have c:∀t:Nat,(b.map U.v).getD t undef=(b.getD t undef).pm U:=λt=>by simp only[ya,yw];cases b[t]? <;>simp[undef]
 refine ay.a (ay.i4 (h:=Value.pm U) (λr=>?_) _) λe=>ay.c ?_
 .cases r with
  |tmp t=>dsimp only;rw[c];exact ay.c rfl
  |cell a t=>dsimp only;rw[c];exact ay.a (ay.g6 S) λa=>ay.d1
 simp only[I1];split;simp;simp
variable {w' wa':Δ}{todo:List Item}{π':Perm}{o:Oper}
def ur(P:ϛ)(F:Fam)(U:Perm)(fr:Frame)(cs rest:List Frame)(w wa:Δ)(g':Ϛ)(w':Δ):Prop:=
 Da g'\/(∃fr' cs' π' wa' es',g'=G fr' (cs'++[ai])/\(∀main,stepG P main (G (fr.pm U) (cs.map (Frame.pm U)++rest)) wa=.go (G (fr'.pm π') (cs'.map (Frame.pm π')++rest)) wa' es')/\
  bY P F π' fr' cs' w' wa'/\Ran F U π' w wa w' wa'/\∀e∈es',fX F π' w'.heap.size e)\/
 ∃f args π' wa' es',F.leaf f=true/\F f=true/\g'=G (Frame.enter P f args .normal) (fr::(cs++[ai]))/\
   (∀main,stepG P main (G (fr.pm U) (cs.map (Frame.pm U)++rest)) wa=.go (G (Frame.enter P f (args.map π'.v) .normal) (fr.pm π'::(cs.map (Frame.pm π')++rest))) wa' es')/\
   bY P F π' fr cs w' wa'/\fr.mode=.run/\(∃ops i r k,fr.todo=.inRegion ops (i::r)::k)/\Ran F U π' w wa w' wa'/\∀e∈es',fX F π' w'.heap.size e
section
variable {P:ϛ}{F:Fam}{U:Perm}{fr:Frame}{cs rest:List Frame}{w wa:Δ}
def bY.q(h:bY P F U fr cs w wa){m:FrameMode}(c:m=.run\/m=.returning)(a:∀i∈todo,cD P F i=true):bY P F U {fr with todo:=todo,mode:=m} cs w wa:=
 {h with a:={h.a with mode:=c,todo:=a}}
theorem uz(h:bY P F U fr cs w wa){m:FrameMode}{b:Ϛ}{d:Array Event}(f:m=.run\/m=.returning)(c:∀i∈todo,cD P F i=true)(e:(GStep.go (G {fr with todo:=todo,mode:=m} (cs++[ai])) w #[])=.go b w' d)(g:∀a,stepG P a (G (fr.pm U) (cs.map (Frame.pm U)++rest)) wa=.go (G {(fr.pm U)with todo:=todo,mode:=m} (cs.map (Frame.pm U)++rest)) wa #[]):ur P F U fr cs rest w wa b w':=by
 injection e with e1 e2 e3;subst e1 e2;exact .inr (.inl ⟨_,cs,U,wa,#[],rfl,g,h.q f c,Ran.i h.d h.e,ς⟩)
def bY.p(h:bY P F U fr cs w wa)(d:Ran F U π' w wa w' wa'){a:Frame}{e:List Frame}(r:fF P F a)(p:fC F w'.heap.size a)(q:∀c∈e,c∈cs\/(fF P F c/\fC F w'.heap.size c/\c.mode=.run/\∃m i j k,c.todo=.inRegion m (i::j)::k)):bY P F π' a e w' wa':=
 ⟨d.d,d.m,λf=>d.e.1▸h.g f,d.e.2.2.trans h.b,r,p,
  λc l=>(q c l).elim (λn=>⟨(h.j c n).1,(h.j c n).2.1.a d.grow,(h.j c n).2.2⟩) id⟩
def kC(h:bY P F U fr cs w wa)(a:Ran F U π' w wa w' wa'):cs.map (Frame.pm U)=cs.map (Frame.pm π'):=
 GU λc b=>(ny h.d.b a.d.b a.c a.e (h.j c b).2.1).symm
def oX(p:bL P F)(h:bY P F U fr cs w wa)(t:uH P F o.op=true)(m:∀x,o.op≠.panic x):ec P F Next.pm U w wa ((execOp fr.eval o).bz P)/\∀q a j k,(((execOp fr.eval o).bz P).bN U (Next.pm U)).runT P wa q=(.ok a j,k)->(execOp (fr.pm U).eval o).runT P wa q=(.ok a j,k):=by
 have S:=h.o p;have d:∀(l:Perm),(∀f,F f=true->l.g f=f)->∀x,Be P F x=true->G5 P l _:=λl i x n z a b e=>by obtain⟨f,rfl,u⟩:=dw p (fZ h.h n) e;let⟨B,c,y,A,_⟩:=p.a f u;grind
 constructor;refine oA Bd _ h.d h.e λl i=>?_;have r:=iA p i;exact(ay.e7 r (λx n=>(fZ h.h n l i).symm) i.2.1 (d l i.2.1) t m).symm;intro q a j k v;have:=ay.e7 S (λx n=>kD (λf _=>h.g f) fr n) (λf _=>h.g f) (d U λf _=>h.g f) t m;exact j4 ((congrArg (λs=>Sem.runT P s wa q) this).trans v)
def jz{ρ:Operand->Θ}{x:Operand}(i:o.op=.panic x)(w:Δ)(c:Array Event):∃h f b,(execOp ρ o).runT P w c=(.halt h f,b)/\((∃v,h=.panic v)\/(∃u,h=.stuck u)\/∃u,h=.unsupported u/\∀g,u≠.initOrder g):=by
 unfold execOp;rw[i];dsimp only;have e:∀(w:Δ)(c:Array _),∃h f b,((Go.runtimePanic .panicNil).bind λa=>Sem.pure (Next.value a)).runT P w c=(.halt h f,b)/\((∃v,h=.panic v)\/(∃u,h=.stuck u)\/∃u,h=.unsupported u/\∀g,u≠.initOrder g):=by
  intro w c;unfold Go.runtimePanic elemOf underlying;simp only[program,Bind.bind,Sem.bind,Sem.runT];cases P.underlying _ with
  |none=>exact⟨_,_,_,rfl,ς⟩
  |some d=>cases d<;>first|exact⟨_,_,_,rfl,ς⟩|exact⟨_,_,_,rfl,.inl _⟩
 generalize ρ x=v;cases v with
 |iface t v=>exact⟨_,_,_,rfl,.inl ⟨_,rfl⟩⟩
 |nilIface=>
  unfold Instr.panic Instr.panicnil;simp only[Go.sys,program,Bind.bind,Sem.bind,Sem.runT];generalize (w.sys .env).1=r;generalize (w.sys .env).2=j;cases r<;>simp only[stuck,Pure.pure,Sem.bind,Sem.runT]<;>first|exact⟨_,_,_,rfl,.inr (.inl ⟨_,rfl⟩)⟩|skip
  split;exact⟨_,_,_,rfl,.inl ⟨_,rfl⟩⟩;exact e _ _
 |_=>exact⟨_,_,_,rfl,ς⟩
end
variable {g':Ϛ}{es:Array Event}{n i:Nat}{ops:Array Oper}{r:Ϙ}{k:List Item}
section
variable{P:ϛ}{F:Fam}{π:Perm}{fr:Frame}{cs rest:List Frame}{w wa:Δ}
def jx(g:bL P F){f:FuncId}(e:F f=true)(b:F.leaf f=false){a:ϡ}(o:∀v∈a,Sup F n v):fF P F (Frame.enter P f a .normal)/\fC F n (Frame.enter P f a .normal):=by let⟨s,c,l,h,_⟩:=g.a f e;have m:=g.b f s c e b l h;refine⟨⟨.inl rfl,rfl,rfl,rfl,λi j=>?_,e,b⟩,λq d=>?_⟩;simp only[Frame.enter,l,Option.bind_some,h,yv,yu]at j;subst j;exact m;simp only[Frame.enter,IY,Array.map_replicate];congr 1;rw[Array.map_congr_left λv p=>o v p q d];simp
theorem oS(b:Perm)(f:FuncId)(a:ϡ):Frame.enter P f (a.map b.v) .normal=(Frame.enter P f a .normal).pm b:=by simp[Frame.enter,Frame.pm,undef]
def fR{c:Frame}(a:fF P F c)(f:fC F n c)(g:c.todo=.inRegion ops (i::r)::k){v:Θ}(h:Sup F n v):fF P F (c.finish v)/\fC F n (c.finish v):=by
 rw[il g];have b:∀x∈(Item.inRegion ops r::k),cD P F x=true:=λx e=>by rcases yF.1 e with rfl|e;have:=a.todo (.inRegion ops (i::r)) ν;exact this;exact a.todo x ν
 refine⟨{a with todo:=b},?_⟩;cases (ops[i]?).bind _ with
 |none=>exact f
 |some d=>exact f.put h d _
def mU(n:Nat):Sup F n undef:=λa _=>by simp[undef]
def A8(hP:bL P F)(h:bY P F π fr cs w wa)(L:fr.todo=.inRegion ops (i::r)::k)(hm:fr.mode=.run){o:Oper}(ho:ops[i]?=some o)(z:stepG.apply P true fr (cs++[ai]) none (execOp fr.eval o) w=.go g' w' es)(ha:∀l,stepG P l (G (fr.pm π) (cs.map (Frame.pm π)++rest)) wa=stepG.apply P true (fr.pm π) (cs.map (Frame.pm π)++rest) none (execOp (fr.pm π).eval o) wa):ur P F π fr cs rest w wa g' w':=by
 have a0:cD P F (.inRegion ops (i::r))=true:=h.a.todo _ ν;have ok:=Ku.1 a0 o (yaj ho);have N:=h.a.kind;have K:=h.a.kind;by_cases Q:∃x,o.op=.panic x
 .obtain⟨x,Y⟩:=Q;obtain⟨y,A,H,D,hy⟩:=jz Y w #[];rcases hy with ⟨v,rfl⟩|⟨u,rfl⟩|⟨u,rfl,U⟩
  .rw[dU P fr _ w _ N v A H D]at z;injection z with e1 e2 e3;have q:fr.raise [{v,recovered:=false}]={fr with mode:=.panicking [{v,recovered:=false}]}:=by unfold Frame.raise;rw[hm]
   rw[q]at e1;exact .inl ⟨_,cs,_,e1.symm,rfl,h.a.defers,λc E=>(h.j c E).1.defers⟩
  obtain⟨_,_,_,e⟩:=dV P fr _ w _ N u A H D;rw[e]at z;cases z;obtain⟨_,_,_,e⟩:=dW P fr _ w _ N u A H U D;rw[e]at z;cases z
 obtain⟨R,V⟩:=oX hP h ok λx e=>Q ⟨x,e⟩;cases D:(execOp _ o).runT P w #[]with
 |mk a2 H=>
  cases a2 with
  |halt x A=>
   have Y:=mP R D;rcases Y with ⟨v,rfl⟩|⟨u,rfl⟩|⟨u,rfl,U⟩
   .rw[dU P fr _ w _ N v A H D]at z;injection z with e1 e2 e3;have q:fr.raise [{v,recovered:=false}]={fr with mode:=.panicking [{v,recovered:=false}]}:=by unfold Frame.raise;rw[hm]
    rw[q]at e1;exact .inl ⟨{fr with mode:=.panicking [{v,recovered:=false}]},cs,_,e1.symm,rfl,h.a.defers,λc E=>(h.j c E).1.defers⟩
   obtain⟨_,_,_,e⟩:=dV P fr (cs++[ai]) w _ N u A H D;grind;obtain⟨_,_,_,e⟩:=dW P fr (cs++[ai]) w _ N u A H U D;grind
  |ok n A=>
   obtain⟨p,s,d,h1,B,h3,h4⟩:=(R #[] #[]).1 n A H (j5 D);replace h1:=V _ _ _ _ h1;have T:=sF ok (λx Y fn a b e=>by obtain⟨f,rfl,hF⟩:=dw hP (fZ h.h Y) e;obtain⟨fd,c,q1,q2,q4⟩:=hP.a f hF;grind) D
   have M:fr.pm π=fr.pm p:=(ny h.d.b B.d.b B.c B.e h.h).symm;have O:=kC h B;have t:=h.h.a B.grow;rcases T with ⟨v,rfl⟩|rfl|⟨f,m,rfl⟩;rw[eS P fr _ w _ N v A H D]at z;injection z with e1 e2 e3;subst e1 e2;obtain⟨X,f2⟩:=fR h.a t L (λI C=>by have:=h4 I C;simpa[Next.pm]using this);refine .inr (.inl ⟨fr.finish v,cs,p,s,seen P fr.fn (#[]++d),rfl,λl=>?_,h.p B X f2 λc E=>.inl E,B,eU h3⟩);rw[ha l,eS P (fr.pm π) _ wa _ K (v.pm p) s _ h1,M,eE p L,O];rfl
   .rw[fY P fr _ w _ N A H D]at z;injection z with e1 e2 e3;subst e1 e2;obtain⟨X,f2⟩:=fR h.a t L (mU (F:=F) A.heap.size);refine .inr (.inl ⟨fr.finish undef,cs,p,s,seen P fr.fn (#[]++d),rfl,λl=>?_,h.p B X f2 λc E=>.inl E,B,eU h3⟩);have U:undef.pm p=undef:=by simp[undef]
    rw[ha l,fY P (fr.pm π) _ wa _ K s _ h1,M,<-U,eE p L,O,U];rfl
   rw[dT P fr _ w ops i r k _ L N f m A H D]at z;injection z with e1 e2 e3;subst e1 e2;have Z:∀I,cG F A.heap.size I->I.g f=f/\m.map I.v=m:=λI C=>by grind[Next.pm]
   have hF:F f=true:=by obtain⟨f',e,a3⟩:=dw hP (n:=A.heap.size) (v:=.func (.func f) #[] #[]) (λI C=>by simp_all[Fn.pm]) rfl;cases e;exact a3
   have S:∀v∈m,Sup F A.heap.size v:=λv hv I C=>by grind[Array.mem_iff_getElem]
   have W:(execOp (fr.pm π).eval o).runT P wa #[]=(.ok (.enter f (m.map p.v)) s,#[]++d):=by rw[h1];simp[Next.pm,(B.e.1▸h.g f)]
   cases a1:F.leaf f with
   |true=>
    refine .inr (.inr ⟨f,m,p,s,seen P fr.fn (#[]++d),a1,hF,rfl,λl=>?_,h.p B h.a t λc E=>.inl E,hm,⟨ops,i,r,k,L⟩,B,eU h3⟩);rw[ha l,dT P (fr.pm π) _ wa ops i r k _ (L) K f _ s _ W,M,O];rfl
   |false=>
   obtain⟨X,f2⟩:=jx hP hF a1 S;refine .inr (.inl ⟨Frame.enter P f m .normal,fr::cs,p,s,seen P fr.fn (#[]++d),rfl,λl=>?_,h.p B X f2 λc E=>?_,B,eU h3⟩);rw[ha l,dT P (fr.pm π) _ wa ops i r k _ (L) K f _ s _ W,oS,M,O];rfl;grind[bY.a]
def db(h:bY P F π fr cs w wa)(b:fr.mode=.run){todo:List Item}(c:∀i∈todo,cD P F i=true)(f:(GStep.go (G {fr with todo:=todo} (cs++[ai])) w #[])=.go g' w' es)(g:∀a,stepG P a (G (fr.pm π) (cs.map (Frame.pm π)++rest)) wa=.go (G {(fr.pm π)with todo:=todo} (cs.map (Frame.pm π)++rest)) wa #[]):ur P F π fr cs rest w wa g' w':=by
 have e:({fr with todo:=todo})={fr with todo:=todo,mode:=.run}:=by rw[<-b]
 have d:({(fr.pm π)with todo:=todo})={(fr.pm π)with todo:=todo,mode:=.run}:=by rw[show FrameMode.run=(fr.pm π).mode from b.symm]
 grind[uz]
def uA(h:bY P F π fr cs w wa)(b:(GStep.go (G {fr with mode:=.returning} (cs++[ai])) w #[])=.go g' w' es)(c:∀a,stepG P a (G (fr.pm π) (cs.map (Frame.pm π)++rest)) wa=.go (G {(fr.pm π)with mode:=.returning} (cs.map (Frame.pm π)++rest)) wa #[]):ur P F π fr cs rest w wa g' w':=uz h (.inr rfl) h.a.todo b c
def ph(hP:bL P F)(h:bY P F π fr cs w wa)(b2:¬(fr.mode=.returning/\cs=[]))(m:stepG P true (G fr (cs++[ai])) w=.go g' w' es):ur P F π fr cs rest w wa g' w':=by
 rcases h.a.mode with B|B
 ·
  have a9:=B;have U:(fr.pm π).roundOf=none:=h.a.round;have hr:=h.a.round;rw[j6 P true fr _ w B]at m;have C:∀j,stepG P j (G (fr.pm π) (cs.map (Frame.pm π)++rest)) wa=stepG.exec P j true (fr.pm π) (cs.map (Frame.pm π)++rest) none wa:=λj=>j6 P j _ _ wa a9;have a8:=h.a.todo;cases z:fr.todo with
  |nil=>
   have p:(fr.pm π).todo=[]:=z;have e:({fr with mode:=.returning})={fr with mode:=.returning,todo:=[],roundOf:=none}:=by cases fr;simp_all
   unfold stepG.exec at m;simp only[z,hr,if_true]at m;exact uA h (by rwa [e]) λj=>by rw[C j];unfold stepG.exec;simp only[p,U,if_true];rfl
  |cons it k=>
   have p:(fr.pm π).todo=it::k:=z;have V:∀i∈k,cD P F i=true:=λi u=>a8 i ν;have y:=a8 it ν;cases it with
   |inBlock I=>
    unfold stepG.exec at m;simp only[z]at m;exact db h B V m λj=>by rw[C j];unfold stepG.exec;simp only[p];rfl
   |inScope c=>
    unfold stepG.exec at m;simp only[z]at m;exact db h B V m λj=>by rw[C j];unfold stepG.exec;simp only[p];rfl
   |inLoop c=>
    unfold stepG.exec at m;simp only[z]at m;exact db h B (λi u=>by simp only[yF]at u;rcases u with rfl|rfl|u;exact y;exact y;grind) m λj=>by rw[C j];unfold stepG.exec;simp only[p];rfl
   |inRegion A a3=>
    cases a3 with
    |nil=>
     unfold stepG.exec at m;simp only[z]at m;exact db h B V m λj=>by rw[C j];unfold stepG.exec;simp only[p];rfl
    |cons i r=>
     unfold stepG.exec at m;simp only[z]at m;have a2:yielded A (fr.pm π).tmps=yielded A fr.tmps:=xB π A _;rcases R:A[i]? with _|o
     .simp only[R,Option.map_none,Option.getD_none,yH,if_false]at m;injection m with e1 e2 e3;subst e1 e2;let⟨f1,f2⟩:=fR h.a h.h z (mU (F:=F) w.heap.size);refine .inr (.inl ⟨_,cs,π,wa,#[],rfl,λj=>?_,h.p (Ran.i h.d h.e) f1 f2 λc Q=>.inl Q,Ran.i h.d h.e,ς⟩);have hu:undef.pm π=undef:=by simp[undef]
      rw[C j];unfold stepG.exec;simp only[p,R,Option.map_none,Option.getD_none,yH,if_false];rw[<-hu,eE π z,hu];rfl
     by_cases hw:Region.wanted o (yielded A fr.tmps)=true
     simp only[R,yp,yv,hw,if_true,stepG.oper,Frame.oper?,z,hr]at m;refine A8 hP h z B R m λj=>?_;rw[C j];unfold stepG.exec;simp only[p,R,yp,yv,a2,hw,if_true,stepG.oper,Frame.oper?,U];simp only[R,yp,yv,hw,yH,if_false]at m;injection m with e1 e2 e3;subst e1 e2;let⟨f1,f2⟩:=fR h.a h.h z (mU (F:=F) w.heap.size);refine .inr (.inl ⟨fr.finish undef,cs,π,wa,#[],rfl,λj=>?_,h.p (Ran.i h.d h.e) f1 f2 λc Q=>.inl Q,Ran.i h.d h.e,ς⟩);have hu:undef.pm π=undef:=by simp[undef]
     rw[C j];unfold stepG.exec;simp only[p,R,yp,yv,a2,hw,yH,if_false];rw[<-hu,eE π z,hu];rfl
   |code c=>
    cases c with
    |skip=>
     unfold stepG.exec at m;simp only[z]at m;exact db h B (todo:=k) V m λj=>by rw[C j];unfold stepG.exec;simp only[p];rfl
    |label l=>
     unfold stepG.exec at m;simp only[z]at m;exact db h B (todo:=k) V m λj=>by rw[C j];unfold stepG.exec;simp only[p];rfl
    |seq a b=>
     have hab:cC P F a=true/\cC P F b=true:=by simpa[cD,cC]using y
     unfold stepG.exec at m;simp only[z]at m;exact db h B (todo:=.code a::.code b::k) (λi u=>by simp only[yF]at u;rcases u with rfl|rfl|u;exact hab.1;exact hab.2;grind) m λj=>by rw[C j];unfold stepG.exec;simp only[p];rfl
    |block I c=>
     unfold stepG.exec at m;simp only[z]at m;exact db h B (todo:=.code c::.inBlock I::k) (λi u=>by simp only[yF]at u;rcases u with rfl|rfl|u;exact y;rfl;grind) m λj=>by rw[C j];unfold stepG.exec;simp only[p];rfl
    |loop c=>
     unfold stepG.exec at m;simp only[z]at m;exact db h B (todo:=.code c::.inLoop c::k) (λi u=>by simp only[yF]at u;rcases u with rfl|rfl|u;exact y;exact y;grind) m λj=>by rw[C j];unfold stepG.exec;simp only[p];rfl
    |scope c=>
     unfold stepG.exec at m;simp only[z]at m;exact db h B (todo:=.code c::.inScope c::k) (λi u=>by simp only[yF]at u;rcases u with rfl|rfl|u;exact y;exact y;grind) m λj=>by rw[C j];unfold stepG.exec;simp only[p];rfl
    |ret=>
     have e:({fr with mode:=.returning}:Frame)={fr with mode:=.returning,todo:=.code .ret::k,roundOf:=none}:=by cases fr;simp_all
     unfold stepG.exec at m;simp only[z,hr,if_true]at m;exact uA h (by rwa [e]) λj=>by rw[C j];unfold stepG.exec;simp only[p,U,if_true];rfl
    |refuse b5=>
     unfold stepG.exec at m;grind
    |rangeFunc f ps a b=>grind[cD,cC]
    |cond c a b=>
     have hab:(dd c=true\/Be P F c=true/\cC P F a=true)/\cC P F b=true:=by simpa[cD,cC]using y
     have hc:dd c=true->c=.const (.bool false):=λh=>by grind[dd]
     have S:=kD (P:=P) (F:=F) (λf _=>h.g f) fr (hab.1.elim (λh=>by rw[hc h];rfl) (·.1));unfold stepG.exec at m;simp only[z]at m;cases Q:fr.eval c with
     |bool t=>
      rw[Q]at m S;simp only[FA]at S;refine db h B (todo:=.code (if t then a else b)::k) (λi u=>?_) m λj=>by rw[C j];unfold stepG.exec;simp only[p,S];rfl
      rcases yF.1 u with rfl|u;cases t;exact hab.2;exact hab.1.elim (λh=>by rw[hc h]at Q;cases Q) (·.2);grind
     |_=>grind
    |exit I=>
     unfold stepG.exec at m;simp only[z]at m;rcases L:exitTo I k with _|k';grind;rw[L]at m;exact db h B (todo:=k') (mM V L) m λj=>by rw[C j];unfold stepG.exec;simp only[p,L];rfl
    |goto l=>
     unfold stepG.exec at m;simp only[z]at m;rcases L:gotoIn l k with _|k';grind;rw[L]at m;exact db h B (todo:=k') (mO V L) m λj=>by rw[C j];unfold stepG.exec;simp only[p,L];rfl
    |region I A a7=>
     cases a7
     .unfold stepG.exec at m;simp only[z]at m;refine db h B (todo:=.inRegion A (List.range A.size)::k) (λi u=>?_) m λj=>by rw[C j];unfold stepG.exec;simp only[p];rfl
      rcases yF.1 u with rfl|u;exact y;grind
     have hq:(Question.order fr.fn I).forced=false:=rfl;have O:∀v:Δ,(choose (.order fr.fn I)).run P v=.ok (Question.cut (.order fr.fn I) (v.tape v.drawn (.order fr.fn I))) {v with drawn:=v.drawn+1}:=λv=>by unfold choose;simp only[Sem.run,hq,yH,if_false]
     have et:=h.d.tape 0 (.order fr.fn I);simp only[GV]at et;unfold stepG.exec at m;simp only[z,O,Bool.not_true,yH,if_false]at m;injection m with e1 e2 e3;subst e1 e2;have a5:Sim F π {w with drawn:=w.drawn+1} {wa with drawn:=wa.drawn+1}:={h.d with tape:=λi q=>by have:=h.d.tape (i+1) q;grind};have hR:Ran F π π w wa {w with drawn:=w.drawn+1} {wa with drawn:=wa.drawn+1}:=⟨a5,⟨h.e.b⟩,Ϫ,Ϫ,λ_ _=>rfl,λr h1 h2=>ν,λ_ _ _=>rfl,λ_ _=>rfl,rfl,rfl,rfl,rfl,rfl,rfl,rfl⟩;refine .inr (.inl ⟨{fr with todo:=.inRegion A (Region.schedule (P.follows .mixedOrders) A (Question.cut (.order fr.fn I) (w.tape w.drawn (.order fr.fn I))))::k},cs,π,{wa with drawn:=wa.drawn+1},#[],rfl,λj=>?_,h.p hR {h.a with mode:=.inl B,todo:=λi u=>?_} h.h λc Q=>.inl Q,hR,ς⟩);rw[C j];unfold stepG.exec;simp only[p,show (fr.pm π).fn=fr.fn from rfl,O,<-et,Bool.not_true,yH,if_false];rfl;rcases yF.1 u with rfl|u;exact y;grind
   |_=>grind[cD]
 ·
  cases cs with
  |nil=>grind
  |cons c cs=>
   let⟨a6,Z,b6,A,i,r,k,a4⟩:=h.j c ς;let⟨N,b3,T,_⟩:=hP.a fr.fn h.a.fn;have a0:ec P F Value.pm π w wa ((results N fr.tmps).bz P):=oA pm_comp _ h.d h.e λσ M=>by have:=ay.z (iA hP M) N fr.tmps;rw[h.h σ M]at this;exact this.symm
   have a1:∀es a H X,(((results N fr.tmps).bz P).bN π π.v).runT P wa es=(.ok a H,X)->(results N (fr.pm π).tmps).runT P wa es=(.ok a H,X):=λes a H X L=>
    j4 ((congrArg (λs=>Sem.runT P s wa es) (ay.z (h.o hP) N fr.tmps)).trans L)
   cases K:(results N fr.tmps).runT P w #[]with
   |mk b0 ev=>
    cases b0 with
    |halt x w1=>
     let⟨_,_,_,e⟩:=dx P true fr c (cs++[ai]) w w1 B h.a.defers h.a.kind N x ev T K;grind
    |ok v w1=>
     rw[show (c::cs)++[ai]=c::(cs++[ai]) from rfl,aW P true fr c (cs++[ai]) w w1 B h.a.defers h.a.kind N v ev T K]at m;injection m with e1 e2 e3;subst e1 e2;let⟨Y,H,d,h1,h2,h3,h4⟩:=(a0 #[] #[]).1 v w1 ev (j5 K);replace h1:=a1 _ _ _ _ h1;let⟨f1,f2⟩:=fR a6 (Z.a h2.grow) a4 (v:=v) λσ M=>h4 σ M;have W:=kC h h2;simp only[yN,Kv]at W;refine .inr (.inl ⟨c.finish v,cs,Y,H,seen P fr.fn (#[]++d),rfl,λj=>?_,h.p h2 f1 f2 λc' b4=>.inl ν,h2,eU h3⟩);rw[yN,Ft,aW P j (fr.pm π) (c.pm π) _ wa H B h.a.defers h.a.kind N (v.pm Y) _ T h1,W.1,eE Y a4,W.2];rfl
end
end
section
open Go Go.Conc
variable {fr:Frame}{w:Δ}{cs:List Frame}
section
variable{P:ϛ}{M K:Type}
def gP(P:ϛ)(s:Sem M):Prop:=∀w a w',s.run P w=.ok a w'->w'=w
def Dp(s:Sem M)(f:M->Sem K):∀w,(s.bind f).run P w=match s.run P w with|.ok a d=>(f a).run P d|.halt h d=>.halt h d:=by
 induction s with
 |pure a=>intro w;rfl
 |halt h=>intro w;rfl
 |program k b=>intro w;exact b P w
 |mark m k b=>intro w;exact b _
 |freeze a n k b=>intro w;exact b _
 |shape r k b=>intro w;exact b _ _
 |frozen r k b=>intro w;exact b _ _
 |new o k b=>intro w;exact b _ _
 |sys c k b=>intro w;exact b _ _
 |choose q k b=>intro w;simp only[Sem.bind,Sem.run];split<;>exact b _ _
 |load m a k b=>
  intro w;simp only[Sem.bind,Sem.run];split;exact b _ _;split;exact b _ _;rfl
 |getObj r k b=>
  intro w;simp only[Sem.bind,Sem.run];split;rfl;exact b _ _;rfl
 |setObj r o k b=>
  intro w;simp only[Sem.bind,Sem.run];split;rfl;exact b _;rfl
 |store m a v k b=>
  intro w;cases v<;>first|rfl|skip
  all_goals
   simp only[Sem.bind,Sem.run];split;split;rfl;exact b _;split;exact b _;rfl
def gP.a{s:Sem M}{f:M->Sem K}(h:gP P s)(g:∀a,gP P (f a)):gP P (s>>=f):=by
 intro w a i e;have c:(s.bind f).run P w=.ok a i:=e;rw[Dp]at c;cases d:s.run P w with
 |halt x j=>grind
 |ok b j=>
  rw[d]at c;have:=h _ _ _ d;subst this;exact g b _ _ _ c
def gP.b(a:M):gP P (Pure.pure a:Sem M):=λw b c e=>by cases e;rfl
def gP.halt(h:Halt):gP P (.halt h:Sem M):=λw b a e=>by cases e
def gP.d:gP P Go.program:=λw b a e=>by cases e;rfl
theorem gP.h(a:Addr):gP P (Go.load a):=λw b c e=>by simp only[Go.load,Sem.run]at e;grind
def gP.f(t:ϟ):gP P (Go.typeInfo t):=gP.a gP.d λp=>by split;exact gP.b _;exact gP.halt _
def gP.e(t:ϟ):gP P (Go.underlying t):=gP.a gP.d λp=>by split;exact gP.b _;exact gP.halt _
def gP.c(a:Addr):∀(n i:Nat)(b:ϡ),gP P (Go.loadCellsFrom a i n b)
 |0,_,_=>gP.b _
 |n+1,i,b=>gP.a (gP.h _) λv=>gP.c a n (i+1) (b.push v)
def gP.g(t:ϟ)(a:Addr):gP P (Go.loadVar t a):=by
 refine gP.a (gP.a (gP.e t) λd=>?_) λb=>?_
 .cases d<;>exact gP.b _
 split;exact gP.a (gP.a (gP.f t) λi=>gP.b _) λn=>gP.a (gP.c a n 0 #[]) λc=>gP.b _;grind[h]
def gP.i{b:Type}{f:b->Sem M}(c:∀i,gP P (f i)):∀l:List b,gP P (l.mapM f)
 |[]=>gP.b _
 |x::l=>by
   haveI:=sH
   rw[List.mapM_cons];exact gP.a (c x) λa=>gP.a (gP.i c l) λd=>gP.b _
def kE(c:Func)(b:ϡ):gP P (Go.results c b):=by
 unfold Go.results;haveI:=sH;rw[Array.mapM_eq_mapM_toList];refine gP.a (gP.a (gP.i (λr=>?_) _) λl=>gP.b _) λd=>gP.b _;cases r with
 |tmp t=>exact gP.b _
 |cell a t=>
  refine gP.a ?_ λx=>gP.g _ _;cases b.getD a _ with
  |pointer p=>
   cases p with
   |some p=>exact gP.b _
   |none=>
    unfold asAddr runtimePanic;exact gP.a gP.d λp=>gP.halt _
  |_=>exact gP.halt _
end
section
variable {P:ϛ}
def uw{b:List PanicEntry}(x:fr.mode=.panicking b)(v:fr.defers=[])(u:∀c∈cs,c.defers=[]):(∃o A,step P (lone fr (cs++[ai]) w)=.ended o A)\/∃h j e,step P (lone fr (cs++[ai]) w)=.next (lone h j w)/\h.mode=.panicking e/\
  ((∃f,j=f++[ai]/\f.length<cs.length/\h.defers=[]/\∀c∈f,c.defers=[])\/(j=[]/\h.defers=ai.defers/\h.fn=ai.fn/\h.todo=[])):=by
 have k:∀a,stepG P true {frame:=fr,callers:=a,status:=.running,dying:=none} w=if fr.catches P then .ended (.unsupported (.noEntry "a panic or Goexit out of a method that fmt calls behind a cut's door") (fr.pos P)) w else
  match a with
  |i::m=>.go {frame:=i.raise b,callers:=m,status:=.running,dying:=none} w
  |[]=>stepG P true {frame:=fr,callers:=[],status:=.running,dying:=none} w:=by
  intro a;by_cases d:fr.catches P=true;unfold stepG;simp only[x,unwind,v,d,if_true];rw[if_neg d];cases a with
  |nil=>rfl
  |cons c r=>
   unfold stepG;simp only[x,unwind,v,d,yH,if_false]
 by_cases d:fr.catches P=true
 exact .inl ⟨_,_,step_lone_ended (by rw[k,if_pos d];rfl)⟩;right;have g:∀c:Frame,∃e,(c.raise b).mode=.panicking e/\(c.raise b).defers=c.defers/\(c.raise b).fn=c.fn/\(c.raise b).todo=c.todo:=λc=>by unfold Frame.raise;grind
 cases cs with
 |nil=>
  obtain⟨n,p,q,t,s⟩:=g _;exact⟨_,[],n,step_lone_go (by rw[k,if_neg d];rfl),p,.inr ⟨rfl,q,t,s⟩⟩
 |cons c cs=>
  let⟨n,p,q,t,s⟩:=g c;exact⟨_,_,n,step_lone_go (by rw[k,if_neg d];rfl),p,.inl ⟨cs,rfl,ς,q.trans (u c ς),λz y=>u z ν⟩⟩
def nz{m:FrameMode}(f:fr.mode=m)(c:m≠.run)(g:fr.defers=ai.defers):∃o b,step P (lone fr [] w)=.ended o b:=
 have:∃o b d,stepG P true {frame:=fr,callers:=[],status:=.running,dying:=none} w=.ended o b d:=by
  unfold stepG;have a:fr.defers=[{target:=.builtin _ #[] 0 #[],args:=#[]}]:=g;cases m with
  |run=>exact absurd rfl c
  |returning=>
   simp only[f,unwind,a,callDeferred,invoke,builtin,stuck,Sem.runT,GStep.after];simp
  |panicking h=>
   simp only[f,unwind,a,callDeferred,invoke,builtin,stuck,Sem.runT,GStep.after];simp
 let ⟨o,b,d,e⟩:=this
 ⟨o,b,step_lone_ended (by rw[e];rfl)⟩
def bP(n:Nat)(m:Machine):runN P (n+1) m=match step P m with|.next m=>runN P n m|e=>e:=rfl
theorem cR{b:Frame}{a:List Frame}{c:Δ}(h:lone fr cs w=lone b a c):fr=b/\cs=a/\w=c:=by simp only[lone,Machine.mk.injEq,Array.mk.injEq,Kv,Goroutine.mk.injEq]at h;grind
theorem iS:∀(n:Nat){d:Frame}{f:List Frame}{a:List PanicEntry}{w:Δ},d.mode=.panicking a->d.defers=[]->(∀c∈f,c.defers=[])->
 ∀{b:Frame}{g:Δ},runN P n (lone d (f++[ai]) w)=.next (lone b [ai] g)->b.mode≠.returning
 |0,d,f,a,w,q,p,m,b,g,h=>by injection h with h;grind[cR]
 |n+1,d,f,a,w,q,p,m,b,g,h=>by
   rw[bP]at h;rcases uw (P:=P) (w:=w) q p m with ⟨o,v,e⟩|⟨r,s,u,e,l,⟨t,rfl,_,j,k⟩|⟨rfl,j,k,z⟩⟩;grind;rw[e]at h;exact iS n l j k h;rw[e]at h;cases n with
   |zero=>
    injection h with h;grind[cR]
   |succ n=>
    dsimp only at h;rw[bP]at h;let⟨o,y,x⟩:=nz (P:=P) (w:=w) l ς j;grind
end
variable {w' wa':Δ}{T:Ξ}{v:Θ}{π':Perm}{B:Nat}{fra:Frame}
section
variable{P:ϛ}{F:Fam}{π:Perm}{fr:Frame}{cs rest:List Frame}{w wa:Δ}
def sw(s:GStep):Prop:=(∃g w es,s=.go g w es)\/∃o w es,s=.ended o w es
theorem dc(g:Ϛ)(w:Δ)(a:Array Event):sw (.go g w a):=.inl ⟨_,_,_,rfl⟩
theorem gd(o:Outcome)(w:Δ)(a:Array Event):sw (.ended o w a):=.inr ⟨_,_,_,rfl⟩
def pg(L:bL P F)(h:bY P F π fr cs w wa)(O:¬(fr.mode=.returning/\cs=[])):sw (stepG P true (G fr (cs++[ai])) w):=by
 rcases h.a.mode with E|E
 .rw[j6 P true fr _ w E];have C:=h.a.round;unfold stepG.exec;cases R:fr.todo with
  |nil=>simp only[C];grind[dc]
  |cons V k=>
   have q:=h.a.todo V ν;cases V with
   |inBlock K=>exact dc _ _ _
   |inScope c=>exact dc _ _ _
   |inLoop c=>exact dc _ _ _
   |inRegion p D=>
    cases D with
    |nil=>exact dc _ _ _
    |cons i r=>
     dsimp only;split
     .unfold stepG.oper Frame.oper?;simp only[R];rcases X:p[i]? with _|o;exact gd _ _ _;simp only[C];have W:=Ku.1 q o (yaj X);by_cases m:∃x,o.op=.panic x;obtain⟨x,N⟩:=m;obtain⟨y,g,j,d,Y⟩:=jz N w #[];rcases Y with ⟨v,rfl⟩|⟨u,rfl⟩|⟨u,rfl,Q⟩;rw[dU P fr _ w _ h.a.kind v g j d];grind[dc];obtain⟨_,_,_,e⟩:=dV P fr _ w _ h.a.kind u g j d;rw[e];grind[gd];obtain⟨_,_,_,e⟩:=dW P fr _ w _ h.a.kind u g j Q d;rw[e];grind[gd];obtain⟨A,_⟩:=oX L h W λx e=>m ⟨x,e⟩;cases d:(execOp _ o).runT P w #[]with
      |mk s j=>
       cases s with
       |halt x g=>
        rcases mP A d with ⟨v,rfl⟩|⟨u,rfl⟩|⟨u,rfl,Q⟩;rw[dU P fr _ w _ h.a.kind v g j d];grind[dc];obtain⟨_,_,_,e⟩:=dV P fr _ w _ h.a.kind u g j d;rw[e];grind[gd];obtain⟨_,_,_,e⟩:=dW P fr _ w _ h.a.kind u g j Q d;rw[e];grind[gd]
       |ok n g=>
        have t:=sF W (λx N fn a b e=>by obtain⟨f,rfl,hF⟩:=dw L (fZ h.h N) e;obtain⟨M,c,q1,q2,q4⟩:=L.a f hF;grind) d
        rcases t with ⟨v,rfl⟩|rfl|⟨f,I,rfl⟩;rw[eS P fr _ w _ h.a.kind v g j d];grind[dc];rw[fY P fr _ w _ h.a.kind g j d];grind[dc];rw[dT P fr _ w p i r k _ R h.a.kind f I g j d];grind[dc]
     grind[dc]
   |code c=>
    cases c with
    |skip=>exact dc _ _ _
    |label l=>exact dc _ _ _
    |seq a b=>exact dc _ _ _
    |block K c=>exact dc _ _ _
    |loop c=>exact dc _ _ _
    |scope c=>exact dc _ _ _
    |ret=>simp only[C];grind[dc]
    |refuse a0=>exact gd _ _ _
    |rangeFunc f ps a b=>exact absurd q (by simp[cD,cC])
    |cond c a b=>dsimp only;split;exact dc _ _ _;grind[gd]
    |exit K=>
     dsimp only;cases exitTo K k with
     |none=>simp only[C];grind[gd]
     |some Z=>exact dc _ _ _
    |goto l=>
     dsimp only;cases gotoIn l k with
     |none=>simp only[C];grind[gd]
     |some Z=>exact dc _ _ _
    |region K p S=>
     dsimp only;split;grind[dc];split;grind[dc];grind[gd]
   |_=>exact absurd q (by simp[cD])
 cases cs with
 |nil=>exact absurd ⟨E,rfl⟩ O
 |cons c cs=>
  obtain⟨M,U,H,_⟩:=L.a _ h.a.fn;cases d:(results M fr.tmps).runT P w #[]with
  |mk s j=>
   cases s with
   |halt x g=>
    obtain⟨_,_,_,e⟩:=dx P true fr c (cs++[ai]) w g E h.a.defers h.a.kind M x j H d;rw[Ft,e];grind[gd]
   |ok v g=>
    rw[Ft,aW P true fr c (cs++[ai]) w g E h.a.defers h.a.kind M v j H d];grind[dc]
def ry(m:fr.mode=.returning)(k:fr.defers=[])(l:fr.kind=.normal){c:Func}(j:P.funcs[fr.fn]?=some c)(n:Nat){g:Frame}:runN P (n+1) (lone fr [ai] w)≠.next (lone g [ai] w'):=by
 intro h;rw[bP]at h;cases a:(results c _).runT P w #[]with
 |mk f i=>
  cases f with
  |halt x d=>
   obtain⟨o,p,r,e⟩:=dx P true fr _ [] w d m k l c x i j a;rw[step_lone_ended (by have:stepG P true {frame:=fr,callers:=[ai],status:=.running,dying:=none} w=_:=e;rw[this];rfl)]at h;cases h
  |ok v d=>
   rw[step_lone_go (fr':=ai) (by have:stepG P true {frame:=fr,callers:=[ai],status:=.running,dying:=none} w=_:=(aW P true fr ai [] w d m k l c v i j a);rw[this];rfl)]at h;cases n with
   |zero=>
    injection h with h;grind[cR]
   |succ n=>
    dsimp only at h;rw[bP]at h;rw[step_lone_go (by rfl)]at h;cases n with
    |zero=>
     injection h with h;grind[cR]
    |succ n=>
     dsimp only at h;rw[bP]at h;let⟨o,p,q⟩:=nz (P:=P) (fr:={ai with mode:=.returning}) (w:=d) rfl ς rfl;grind
def Ran.a(L:da P F)(a:Ran F π π' w wa w' wa')(h:L.T w):L.T w':=L.a _ _ (λb c=>a.t b ω) h
def Ran.n(L:da P F)(a:Sim F π w wa)(c:Ran F π π' w wa w' wa')(h:L.T wa):L.T wa':=
 L.a _ _ (λb f=>c.j b (ϕ a.e) λr d _ e=>ϕ (π.Nd (e.trans (a.g b ω).symm))) h
def uO{f:Frame}(i:fW P T B f fra v):∀(n:Nat){c:Frame}{d:List Frame}{w:Δ}{b:Frame}{h:Δ},T w->d≠[]->
 runN P n (lone f (c::d) w)=.next (lone b [ai] h)->∃m,m<n/\runN P m (lone (c.finish v) d w)=.next (lone b [ai] h):=by
 induction i with
 |@ret f fra v u p C A s y x=>
  intro n c d w b h l j a;cases n with
  |zero=>
   injection a with a;grind[cR]
  |succ n=>
   rw[bP,step_lone_go (by have:stepG P true {frame:=f,callers:=c::d,status:=.running,dying:=none} w=_:=(aW P true f c d w w C A s u v #[] y (x w l));rw[this];rfl)]at a;grind
 |@step f fra q o v G t _ z r E _ D=>
  intro n c d w b h l j a;cases n with
  |zero=>
   injection a with a;grind[cR]
  |succ n=>
   rw[bP,step_lone_go (by have:stepG P true {frame:=f,callers:=c::d,status:=.running,dying:=none} w=_:=z w true _ l;rw[this];rfl)]at a;grind
def sM{a:Frame}(d:fW P T B a fra v){c:Frame}{b:List Frame}{w:Δ}(e:T w):Steps P (lone fra (c::b) w) (lone (c.finish v) b w):=by
 induction d with
 |@ret _ a v _ m _ _ _ _ _ n j l h f=>
  refine Steps.head (step_lone_go ?_) (Steps.refl _ _);have:stepG P true {frame:=a,callers:=c::b,status:=.running,dying:=none} w=_:=aW P true a c b w w n j l m v #[] h (f w e);rw[this];rfl
 |@step _ a _ g v _ p _ _ i o _ k=>
  refine Steps.head (step_lone_go ?_) k;have:stepG P true {frame:=a,callers:=c::b,status:=.running,dying:=none} w=_:=i w true _ e;rw[this];rfl
def nB{f:Frame}(l:kW P T f):∀(n:Nat){c:Frame}{d:List Frame}{w:Δ}{b:Frame}{j:Δ},T w->d≠[]->
 runN P n (lone f (c::d) w)≠.next (lone b [ai] j):=by
 induction l with
 |@now f h=>
  intro n c d w b j g i a;cases n with
  |zero=>
   injection a with a;grind[cR]
  |succ n=>
   obtain⟨o,r,p,e⟩:=h w true _ g;rw[bP,step_lone_ended (by have:stepG P true {frame:=f,callers:=c::d,status:=.running,dying:=none} w=_:=e;rw[this];rfl)]at a;grind
 |@step f m p h _ q=>
  intro n c d w b j g i a;cases n with
  |zero=>
   injection a with a;grind[cR]
  |succ n=>
   rw[bP,step_lone_go (by have:stepG P true {frame:=f,callers:=c::d,status:=.running,dying:=none} w=_:=h w true _ g;rw[this];rfl)]at a;grind
def bY.m(h:bY P F π fr cs w wa){a:Array Oper}{i:Nat}{r:Ϙ}{k:List Item}(d:fr.todo=.inRegion a (i::r)::k)(f:Sup F w v):bY P F π (fr.finish v) cs w wa:=
 let ⟨e,c⟩:=fR h.a h.h d f
 {h with a:=e,h:=c}
def Di(U:bL P F)(L:da P F)(n:Nat):∀{u:Perm}{l:Frame}{b:List Frame}{w y:Δ},bY P F u l b w y->L.T w->L.T y->∀{p:Frame}{K:Δ},runN P n (lone l (b++[ai]) w)=.next (lone p [ai] K)->p.mode=.returning->
 ∃g d,Steps P (lone (l.pm u) (b.map (Frame.pm u)++rest) y) (lone (p.pm g) rest d)/\bY P F g p [] K d/\Ran F u g w y K d:=by
 induction n using Nat.strongRecOn with
 |_ n Z=>
 intro u l b w y h M E p K a q;cases n with
 |zero=>
  injection a with a;obtain⟨rfl,W,rfl⟩:=cR a;have:b=[]:=by
   cases b with
   |nil=>rfl
   |cons c b=>simp at W
  grind[Steps.refl,Ran.i,bY.d,bY.e]
 |succ n=>
  by_cases D:l.mode=.returning/\b=[]
  obtain⟨hm,rfl⟩:=D;obtain⟨fd,a0,R,_⟩:=U.a _ h.a.fn;exact absurd a (ry hm h.a.defers h.a.kind R n);rw[bP]at a;rcases pg U h D with ⟨g1,w1,es,e⟩|⟨o,w1,es,e⟩
  .rcases ph U h D e with ⟨S,X,V,rfl,d1,d2,d3⟩|⟨S,X,j,G,N,rfl,Q,O,t,_⟩|⟨f,H,j,G,N,Y,hF,rfl,Q,O,_,⟨a1,i,r,k,ht⟩,t,_⟩;rw[step_lone_go (by have:stepG P true {frame:=l,callers:=b++[ai],status:=.running,dying:=none} w=_:=e;rw[this];rfl)]at a;grind[iS];rw[step_lone_go (by have:stepG P true {frame:=l,callers:=b++[ai],status:=.running,dying:=none} w=_:=e;rw[this];rfl)]at a;obtain⟨g,d,s,A,C⟩:=Z n (LO n) O (t.a L M) (t.n L h.d E) a q;refine⟨g,d,Steps.head (step_lone_go ?_) s,A,t.s C⟩;have:stepG P true {frame:=l.pm u,callers:=b.map (Frame.pm u)++rest,status:=.running,dying:=none} y=_:=Q true;rw[this];rfl;rw[step_lone_go (by have:stepG P true {frame:=l,callers:=b++[ai],status:=.running,dying:=none} w=_:=e;rw[this];rfl)]at a;rcases L.c f H Y hF with ⟨kd,x,I⟩|s
   .obtain⟨m,hm,z⟩:=uO (I j) n (t.a L M) ς a;obtain⟨g,d,s,A,C⟩:=Z m ω (O.m ht λσ _=>ς) (t.a L M) (t.n L h.d E) z q;refine⟨g,d,Steps.head (step_lone_go (cs':=l.pm j::(b.map (Frame.pm j)++rest)) (w':=G) ?_) ((sM (I j) (t.n L h.d E)).trans ?_),A,t.s C⟩;have:stepG P true {frame:=l.pm u,callers:=b.map (Frame.pm u)++rest,status:=.running,dying:=none} y=_:=Q true;rw[this];rfl;have:=eE j ht (.int kd x);simp_all
   exact absurd a (nB s n (t.a L M) ς)
  rw[step_lone_ended (P:=P) (o:=o) (w':=w1) (by have:stepG P true {frame:=l,callers:=b++[ai],status:=.running,dying:=none} w=_:=e;rw[this];rfl)]at a;grind
end
variable {f:FuncId}{args:ϡ}
section
variable{P:ϛ}{F:Fam}{U:Perm}{w wa:Δ}
structure Inside(P:ϛ)(F:Fam)(U:Perm)(w wa:Δ):Prop where
 d:Sim F U w wa
 c:Shut F w
 g:∀f,U.g f=f
 b:U.b=false
def Inside.a(h:Inside P F U w wa)(d:bL P F)(e:F f=true)(a:F.leaf f=false)(i:∀v∈args,Sup F w.heap.size v):bY P F U (Frame.enter P f args .normal) [] w wa:=
 ⟨h.d,h.c,h.g,h.b,(jx d e a i).1,(jx d e a i).2,λc j=>by cases j⟩
def uM(t:bL P F){c:Frame}(h:bY P F U c [] w wa){e:Func}{v:Θ}(l:(results e c.tmps).run P w=.ok v w):(results e (c.pm U).tmps).run P wa=.ok (v.pm U) wa/\Sup F w.heap.size v:=by
 have i:ec P F _ U w wa _:=oA pm_comp _ h.d h.e λA k=>by have:=ay.z (iA t k) e c.tmps;rw[h.h A k]at this;exact this.symm
 have j:∀m a b g,(((results e c.tmps).bz P).bN U _).runT P wa m=(.ok a b,g)->(results e (c.pm U).tmps).runT P wa m=(.ok a b,g):=λm a b g z=>
  j4 ((congrArg (λs=>Sem.runT P s wa m) (ay.z (h.o t) e c.tmps)).trans z)
 obtain⟨o,b,d,n,p,_,x⟩:=(i #[] #[]).1 v w _ (j5 (Prod.ext (by rwa [Sem.runT_fst]:((results e c.tmps).runT P w #[]).1=.ok v w) rfl));replace n:=j _ _ _ _ n;have q:(results e (c.pm U).tmps).run P wa=.ok (v.pm o) b:=by rw[<-Sem.runT_fst P _ _ #[],n]
 have u:=kE e _ _ _ _ q;subst u;have r:=x;rw[oZ h.d.b p.d.b p.c p.e r]at q;exact⟨q,r⟩
def frame_calls(p:bL P F)(L:da P F)(h:Inside P F U w wa)(B:L.T w)(r:L.T wa)(z:F f=true)(t:F.leaf f=false)(D:∀v∈args,Sup F w.heap.size v){R:Ending->Ξ}(E:Calls P f args w R)(H:∀e d,R e d->∃v,e=.returned v):Calls P f (args.map U.v) wa (λe g=>∃v d a,e=.returned (v.pm a)/\R (.returned v) d/\Ran F U a w wa d g/\Sup F d.heap.size v):=by
 intro K;obtain⟨e,d,m,l,c,q,b⟩:=E _;obtain⟨v,rfl⟩:=H e d l;obtain⟨n,j⟩:=c;obtain⟨x,G,A,I,u,k⟩:=b;obtain⟨a,g,s,o,C⟩:=Di p L n (h.a p z t D) B r j x;obtain⟨i,y⟩:=uM p o k;refine⟨.returned _,g,m.pm a,⟨v,d,a,rfl,l,C,y⟩,?_,q,x,G,A,I,u,i⟩;rwa [oS]
end
variable {w1:Δ}{ev es:Array Event}{g':Ϛ}
def _root_.Go.World.tp(w:Δ)(τ:Nat->Question->Nat):Δ:={w with tape:=τ}
@[simp] theorem Hc (w:Δ) (b a:Nat->Question->Nat):(w.tp b).tp a=w.tp a:=rfl
@[simp] theorem Ln (w:Δ):w.tp w.tape=w:=rfl
def sV(P:ϛ)(w:Δ)(h:Nat->Question->Nat)(b:Addr)(u:ϟ)(k:Addr)(v:Θ)(a:Bool):(w.tp h).viewStore P b u k v a=(w.viewStore P b u k v a).map (λr=>(r.1.tp h,r.2)):=by
 have e:(w.tp h).seen P b u k _=w.seen P b u k a:=rfl;unfold World.viewStore;rw[e];by_cases j:(!tight P P.depth u)=true;simp only[j,if_true];rfl;simp only[j,if_false,yH];cases o:w.seen P b u k _ with
 |error x=>rfl
 |ok r=>
  let⟨c,e,n,i,f,g⟩:=r;rcases p:v.bytes? with _|d;rfl;by_cases l:some d.length≠Option.map (λx=>x.length) f.bytes?;simp only[bind,Except.bind,pure,Except.pure,if_pos l];rfl;simp only[bind,Except.bind,pure,Except.pure,if_neg l];generalize m:(List.foldlM _ c _:Except _ _)=q;cases q<;>rfl
def pk{P:ϛ}{w:Δ}{f:Addr}{u:ϟ}{k:Addr}{a:Bool}{r:Δ×List Addr}(h:w.viewStore P f u k v a=.ok r):r.1.drawn=w.drawn/\r.1.tape=w.tape:=by
 unfold World.viewStore at h;by_cases l:(!tight P P.depth u)=true;simp only[l,if_true]at h;cases h;simp only[l,if_false,yH]at h;cases j:w.seen P f u k _ with
 |error x=>rw[j]at h;cases h
 |ok q=>
  let⟨c,e,p,i,d,g⟩:=q;rw[j]at h;rcases m:v.bytes? with _|b;rw[m]at h;cases h;rw[m]at h;by_cases n:some b.length≠Option.map (λx=>x.length) d.bytes?;simp only[bind,Except.bind,pure,Except.pure,if_pos n]at h;cases h;simp only[bind,Except.bind,pure,Except.pure,if_neg n]at h;grind
def ji{α:Type}:Sem α->Prop
 |.pure _|.halt _=>True
 |.load _ _ k=>∀v,ji (k v)
 |.store _ _ _ k|.freeze _ _ k|.setObj _ _ k|.mark _ k=>ji k
 |.new _ k=>∀r,ji (k r)
 |.shape _ k=>∀r,ji (k r)
 |.frozen _ k=>∀r,ji (k r)
 |.getObj _ k=>∀r,ji (k r)
 |.choose _ k=>∀r,ji (k r)
 |.program k=>∀p,ji (k p)
 |.sys _ _=>False
def rj{d f:Type}{e:Perm}{h:d->f}(s:Sem d):ji (s.bN e h):=by
 induction s with
 |pure a=>trivial
 |halt x=>trivial
 |sys c k b=>trivial
 |store m a v k b=>exact b
 |freeze a n k b=>exact b
 |setObj r o k b=>exact b
 |mark m k b=>exact b
 |_=>rename_i b;exact λx=>b _
section
variable {P:ϛ}{α:Type}
def zR(s:Sem α):ji s->∀{w t:Δ}{A j:Array Event}{a:α},s.runT P w A=(.ok a t,j)->w.drawn<=t.drawn/\t.tape=w.tape/\
 ∀g:Nat->Question->Nat,(∀i,w.drawn<=i->i<t.drawn->g i=w.tape i)->s.runT P (w.tp g) A=(.ok a (t.tp g),j):=by
 induction s with
 |pure a=>
  intro d w t A j b h;obtain⟨⟨rfl,rfl⟩,rfl⟩:=h;exact⟨Ϫ,rfl,λg _=>rfl⟩
 |halt x=>intro d w t A j b h;simp at h;cases h.1
 |program k p=>intro d w t A j b h;exact p P (d P) h
 |mark m k p=>intro d w t A j b h;exact p d h
 |freeze a n k p=>
  intro d w t A j b h;have:=p d h;have H:(w.freeze a n).drawn=w.drawn:=by unfold World.freeze;split<;>rfl
  have E:(w.freeze a n).tape=w.tape:=by unfold World.freeze;split<;>rfl
  have R:∀g,(w.tp g).freeze a n=(w.freeze a n).tp g:=λg=>by unfold World.freeze;split<;>rfl
  rw[H,E]at this;exact⟨this.1,this.2.1,λg l=>by have:=this.2.2 g l;rwa [<-R]at this⟩
 |shape r k p=>intro d w t A j b h;exact p _ (d _) h
 |frozen r k p=>intro d w t A j b h;exact p _ (d _) h
 |new o k p=>
  intro d w t A j b h;exact p _ (d _) (w:={w with heap:=w.heap.push o}) h
 |sys c k p=>intro d;exact d.elim
 |choose q k p=>
  intro d w t A j b h;simp only[Sem.runT]at h;by_cases F:q.forced=true;simp only[F,if_true]at h;have:=p 0 (d 0) h;exact⟨this.1,this.2.1,λg l=>by simp only[Sem.runT,F,if_true];exact this.2.2 g l⟩;simp only[F,yH,if_false]at h;have:=p _ (d _) (w:={w with drawn:=w.drawn+1}) h;refine⟨ν,this.2.1,λg l=>?_⟩;have e:g w.drawn=w.tape w.drawn:=ν;have M:=this.2.2 g λi N K=>ν;simp only[Sem.runT,F,yH,if_false,World.tp]at M|-;rwa [e]
 |load m a k p=>
  intro d w t A j b h;have e:∀g,(w.tp g).cell? a=w.cell? a:=λ_=>rfl;have E:∀g,(w.tp g).farLoad P a (m==.atomic)=w.farLoad P a (m==.atomic):=λ_=>rfl;simp only[Sem.runT]at h;cases y:w.cell? a with
  |some v=>
   rw[y]at h;have:=p _ (d _) h;exact⟨this.1,this.2.1,λg l=>by simp only[Sem.runT,e,y];exact this.2.2 g l⟩
  |none=>
   rw[y]at h;cases B:w.farLoad P a (m==.atomic)with
   |ok r=>
    rw[B]at h;have:=p _ (d _) h;exact⟨this.1,this.2.1,λg l=>by simp only[Sem.runT,e,y,E,B];exact this.2.2 g l⟩
   |error x=>rw[B]at h;cases h
 |getObj r k p=>
  intro d w t A j b h;rcases C:w.heap[r]? with _|o;simp only[Sem.runT]at h;rw[C]at h;cases h;by_cases z:∃c e f,o=.cells c e f;obtain⟨c,e,f,rfl⟩:=z;simp only[Sem.runT]at h;rw[C]at h;cases h;have y:∀c e f,o≠.cells c e f:=λc e f h=>ν;rw[gQ C y]at h;have:=p _ (d _) h;exact⟨this.1,this.2.1,λg l=>gQ (w:=w.tp g) C y▸this.2.2 g l⟩
 |setObj r T k p=>
  intro d w t A j b h;rcases C:w.heap[r]? with _|o;simp only[Sem.runT]at h;rw[C]at h;cases h;by_cases z:∃c e f,o=.cells c e f;obtain⟨c,e,f,rfl⟩:=z;simp only[Sem.runT]at h;rw[C]at h;cases h;have y:∀c e f,o≠.cells c e f:=λc e f h=>ν;rw[gR C y]at h;have:=p d (w:={w with heap:=w.heap.setIfInBounds r T}) h;exact⟨this.1,this.2.1,λg l=>gR (w:=w.tp g) C y▸this.2.2 g l⟩
 |store m a v k p=>
  intro d w t A j b h;by_cases D:(∀c,v≠.agg c)/\∀c,v≠.tuple c
  .have e:∀g,(w.tp g).cell? a=w.cell? a:=λ_=>rfl;have O:∀g,(w.tp g).frozen? a=w.frozen? a:=λ_=>rfl;rw[cF D]at h;cases y:w.cell? a with
   |some u=>
    rw[y]at h;by_cases G:w.frozen? a=true;simp only[G,if_true]at h;cases h;simp only[G,yH,if_false]at h;have:=p d (w:=w.setCell a v) h;exact⟨this.1,this.2.1,λg l=>by rw[cF D];simp only[e,O,y,G,yH,if_false];exact this.2.2 g l⟩
   |none=>
    rw[y]at h;cases B:w.farStore P a v (m==.atomic)with
    |error x=>rw[B]at h;cases h
    |ok r=>
     rw[B]at h;have Q:r.1.drawn=w.drawn/\r.1.tape=w.tape/\∀g,(w.tp g).farStore P a v (m==.atomic)=.ok (r.1.tp g,r.2):=by
      unfold World.farStore at B|-;have S:∀g,(w.tp g).heap=w.heap:=λ_=>rfl;split at B
      .rename_i L u D
       cases I:w.viewStore P L u a v (m==.atomic)with
       |error x=>grind
       |ok q=>
        rw[I]at B;injection B with B;subst B;obtain⟨H,E⟩:=pk I;refine⟨H,E,λg=>?_⟩;rw[S,D];simp only[sV,I,Except.map]
      cases B
     have:=p d h;refine⟨ω,ν,λg l=>?_⟩;rw[cF D];simp only[e,y,Q.2.2 g];exact this.2.2 g λi N K=>ν
  cases v<;>first|(simp only[Sem.runT,CN]at h;cases h.1)|exact absurd (And.intro (λc e=>(by cases e)) λc e=>(by cases e)) D
end
def zL(w w':Δ)(τ:Nat->Question->Nat):Prop:=∀i,w.drawn<=i->i<w'.drawn->τ i=w.tape i
def Tp(P:ϛ)(fr:Frame)(cs:List Frame)(w:Δ)(g':Ϛ)(w':Δ)(es:Array Event):Prop:=
 w.drawn<=w'.drawn/\w'.tape=w.tape/\∀τ,zL w w' τ->stepG P true (G fr cs) (w.tp τ)=.go g' (w'.tp τ) es
section
variable {P:ϛ}{F:Fam}{π:Perm}{fr:Frame}{cs:List Frame}{w wa:Δ}
def pe(g:bL P F)(h:bY P F π fr cs w wa){a:Func}(d:(results a fr.tmps).runT P w #[]=(.ok v w1,ev)):w.drawn<=w1.drawn/\w1.tape=w.tape/\∀b,zL w w1 b->(results a fr.tmps).runT P (w.tp b) #[]=(.ok v (w1.tp b),ev):=
 have c:((results a fr.tmps).bz P).bN kF kF.v=(results a fr.tmps).bz P:=by have:=ay.z (iA g (fG F w)) a fr.tmps;rw[h.h _ (fG F _)]at this;exact this.symm
 have f:ji ((results a fr.tmps).bz P):=c▸rj _
 let ⟨k,j,i⟩:=zR _ f (j5 d)
 ⟨k,j,λb e=>j4 (i b e)⟩
def Fz(l:bL P F)(h:bY P F π fr cs w wa){o:Oper}(z:uH P F o.op=true)(k:∀x,o.op≠.panic x){n:Next}(j:(execOp fr.eval o).runT P w #[]=(.ok n w1,ev)):w.drawn<=w1.drawn/\w1.tape=w.tape/\∀g,zL w w1 g->(execOp fr.eval o).runT P (w.tp g) #[]=(.ok n (w1.tp g),ev):=
 have d:=fG F w;have i:=
  (ay.e7 (iA l d) (λx p=>(fZ h.h p _ d).symm) d.2.1 (λx p A a b e=>by obtain⟨f,rfl,s⟩:=dw l (fZ h.h p) e;let⟨y,c,m,t,_⟩:=l.a f s;exact⟨f,y,rfl,d.2.1 f s,m,ν⟩) z k).symm
 have r:ji ((execOp fr.eval o).bz P):=i▸rj _
 let ⟨m,t,u⟩:=zR _ r (j5 j)
 ⟨m,t,λg q=>j4 (u g q)⟩
def dj{g:Ϛ}(b:GStep.go g w #[]=.go g' w' es)(c:∀a,stepG P true (G fr cs) (w.tp a)=.go g (w.tp a) #[]):Tp P fr cs w g' w' es:=by injection b with e1 e2 e3;subst e1 e2 e3;exact⟨Ϫ,rfl,λa _=>c a⟩
def FB(U:bL P F)(h:bY P F π fr cs w wa)(a4:¬(fr.mode=.returning/\cs=[]))(d:stepG P true (G fr (cs++[ai])) w=.go g' w' es):Da g'\/Tp P fr (cs++[ai]) w g' w' es:=by
 rcases h.a.mode with O|O
 .have p:∀v,stepG P true (G fr (cs++[ai])) v=stepG.exec P true true fr (cs++[ai]) none v:=λv=>j6 P true fr _ v O;rw[p]at d;have T:=h.a.round;unfold stepG.exec at d;cases j:fr.todo with
  |nil=>simp only[j,T]at d;exact .inr (dj d λm=>by rw[p];unfold stepG.exec;simp only[j,T];rfl)
  |cons it k=>
   have M:=h.a.todo it ν;cases it with
   |inBlock K=>simp only[j]at d;exact .inr (dj d λm=>by rw[p];unfold stepG.exec;simp only[j])
   |inScope c=>simp only[j]at d;exact .inr (dj d λm=>by rw[p];unfold stepG.exec;simp only[j])
   |inLoop c=>simp only[j]at d;exact .inr (dj d λm=>by rw[p];unfold stepG.exec;simp only[j])
   |inRegion E V=>
    cases V with
    |nil=>simp only[j]at d;exact .inr (dj d λm=>by rw[p];unfold stepG.exec;simp only[j])
    |cons i r=>
     simp only[j]at d;by_cases hw:((E[i]?).map (Region.wanted · (yielded E fr.tmps))).getD false=true
     .simp only[hw,if_true]at d;have a1:∀v,stepG P true (G fr (cs++[ai])) v=stepG.oper P true fr (cs++[ai]) none v:=λv=>by rw[p];unfold stepG.exec;simp only[j,hw,if_true]
      unfold stepG.oper Frame.oper? at d;simp only[j]at d;rcases ho:E[i]? with _|o;grind;simp only[ho,T]at d;have N:∀v,stepG P true (G fr (cs++[ai])) v=stepG.apply P true fr (cs++[ai]) none (execOp fr.eval o) v:=λv=>by rw[a1];unfold stepG.oper Frame.oper?;simp only[j,ho,T]
      have ok:=Ku.1 M o (yaj ho);by_cases H:∃x,o.op=.panic x
      .obtain⟨x,a0⟩:=H;obtain⟨y,C,B,g,hy⟩:=jz a0 w #[];rcases hy with ⟨v,rfl⟩|⟨u,rfl⟩|⟨u,rfl,hu⟩
       .rw[dU P fr _ w _ h.a.kind v C B g]at d;injection d with e1 e2 e3;have A:fr.raise [{v,recovered:=false}]={fr with mode:=.panicking [{v,recovered:=false}]}:=by unfold Frame.raise;rw[O]
        rw[A]at e1;exact .inl ⟨{fr with mode:=.panicking [{v,recovered:=false}]},cs,_,e1.symm,rfl,h.a.defers,λc hc=>(h.j c hc).1.defers⟩
       obtain⟨_,_,_,e⟩:=dV P fr (cs++[ai]) w _ h.a.kind u C B g;grind;obtain⟨_,_,_,e⟩:=dW P fr (cs++[ai]) w _ h.a.kind u C B hu g;grind
      obtain⟨D,_⟩:=oX U h ok λx e=>H ⟨x,e⟩;cases g:(execOp fr.eval o).runT P w #[]with
      |mk R B=>
       cases R with
       |halt x C=>
        rcases mP D g with ⟨v,rfl⟩|⟨u,rfl⟩|⟨u,rfl,hu⟩
        .rw[dU P fr _ w _ h.a.kind v C B g]at d;injection d with e1 e2 e3;have A:fr.raise [{v,recovered:=false}]={fr with mode:=.panicking [{v,recovered:=false}]}:=by unfold Frame.raise;rw[O]
         rw[A]at e1;exact .inl ⟨{fr with mode:=.panicking [{v,recovered:=false}]},cs,_,e1.symm,rfl,h.a.defers,λc hc=>(h.j c hc).1.defers⟩
        obtain⟨_,_,_,e⟩:=dV P fr (cs++[ai]) w _ h.a.kind u C B g;grind;obtain⟨_,_,_,e⟩:=dW P fr (cs++[ai]) w _ h.a.kind u C B hu g;grind
       |ok n C=>
        obtain⟨X,W,Y⟩:=Fz U h ok (λx e=>H ⟨x,e⟩) g;have S:=sF ok (λx p fn a b e=>by obtain⟨f,rfl,hF⟩:=dw U (fZ h.h p) e;obtain⟨fd,c,q1,q2,q4⟩:=U.a f hF;grind) g
        right;rcases S with ⟨v,rfl⟩|rfl|⟨f,L,rfl⟩;rw[eS P fr _ w _ h.a.kind v C B g]at d;injection d with e1 e2 e3;subst e1 e2 e3;exact⟨X,W,λm z=>by rw[N,eS P fr _ _ _ h.a.kind v _ B (Y m z)]⟩;rw[fY P fr _ w _ h.a.kind C B g]at d;injection d with e1 e2 e3;subst e1 e2 e3;exact⟨X,W,λm z=>by rw[N,fY P fr _ _ _ h.a.kind _ B (Y m z)]⟩;rw[dT P fr _ w E i r k _ j h.a.kind f L C B g]at d;injection d with e1 e2 e3;subst e1 e2 e3;exact⟨X,W,λm z=>by rw[N,dT P fr _ _ E i r k _ j h.a.kind f L _ B (Y m z)]⟩
     simp only[hw,yH,if_false]at d;exact .inr (dj d λm=>by rw[p];unfold stepG.exec;simp only[j,hw,yH,if_false])
   |code c=>
    cases c with
    |skip=>simp only[j]at d;exact .inr (dj d λm=>by rw[p];unfold stepG.exec;simp only[j])
    |label l=>simp only[j]at d;exact .inr (dj d λm=>by rw[p];unfold stepG.exec;simp only[j])
    |seq a b=>simp only[j]at d;exact .inr (dj d λm=>by rw[p];unfold stepG.exec;simp only[j])
    |block K c=>simp only[j]at d;exact .inr (dj d λm=>by rw[p];unfold stepG.exec;simp only[j])
    |loop c=>simp only[j]at d;exact .inr (dj d λm=>by rw[p];unfold stepG.exec;simp only[j])
    |scope c=>simp only[j]at d;exact .inr (dj d λm=>by rw[p];unfold stepG.exec;simp only[j])
    |ret=>simp only[j,T]at d;exact .inr (dj d λm=>by rw[p];unfold stepG.exec;simp only[j,T];rfl)
    |refuse a3=>grind
    |rangeFunc f ps a b=>grind[cD,cC]
    |cond c a b=>
     simp only[j]at d;cases he:fr.eval c with
     |bool t=>
      simp only[he]at d;exact .inr (dj d λm=>by rw[p];unfold stepG.exec;simp only[j,he])
     |_=>grind
    |exit K=>
     simp only[j]at d;rcases I:exitTo K k with _|k';grind;simp only[I,Option.elim_some]at d;exact .inr (dj d λm=>by rw[p];unfold stepG.exec;simp only[j,I,Option.elim_some])
    |goto l=>
     simp only[j]at d;rcases I:gotoIn l k with _|k';grind;simp only[I,Option.elim_some]at d;exact .inr (dj d λm=>by rw[p];unfold stepG.exec;simp only[j,I,Option.elim_some])
    |region K E Z=>
     simp only[j]at d;cases Z;simp only[Bool.not_false,if_true]at d;exact .inr (dj d λm=>by rw[p];unfold stepG.exec;simp only[j,Bool.not_false,if_true]);have hq:(Question.order fr.fn K).forced=false:=rfl;have D:∀v:Δ,(choose (.order fr.fn K)).run P v=.ok (Question.cut (.order fr.fn K) (v.tape v.drawn (.order fr.fn K))) {v with drawn:=v.drawn+1}:=λv=>by unfold choose;simp only[Sem.run,hq,yH,if_false]
     simp only[D,Bool.not_true,yH,if_false]at d;injection d with e1 e2 e3;subst e1 e2 e3;refine .inr ⟨Nat.le_succ _,rfl,λm z=>?_⟩;have e:m w.drawn=w.tape w.drawn:=z _ Ϫ (LO _);have e':∀q,m w.drawn q=w.tape w.drawn q:=λq=>by rw[e]
     rw[p];unfold stepG.exec;simp only[j,D,Bool.not_true,yH,if_false,World.tp,e']
   |_=>exact absurd M (by simp[cD])
 cases cs with
 |nil=>grind
 |cons c cs=>
  obtain⟨fd,a2,Q,_⟩:=U.a fr.fn h.a.fn;cases g:(results fd fr.tmps).runT P w #[]with
  |mk R B=>
   cases R with
   |halt x C=>
    obtain⟨_,_,_,e⟩:=dx P true fr c (cs++[ai]) w C O h.a.defers h.a.kind fd x B Q g;grind
   |ok v C=>
    obtain⟨X,W,Y⟩:=pe U h g;rw[Ft,aW P true fr c (cs++[ai]) w C O h.a.defers h.a.kind fd v B Q g]at d;injection d with e1 e2 e3;subst e1 e2 e3;exact .inr ⟨X,W,λm z=>by rw[Ft,aW P true fr c (cs++[ai]) _ _ O h.a.defers h.a.kind fd v B Q (Y m z)]⟩
end
