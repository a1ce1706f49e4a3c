import Derived.Conc.CompanyDraw
import Derived.Conc.DeferLaws
import Derived.Test.YtoklolfaemhfnaaGreatDoorZak
set_option maxRecDepth 100000
set_option maxHeartbeats 0
set_option linter.defProp false
namespace Go.Cr
section
open Go Go.Conc
open Go.Pm (Rely Guar Ev grow)
variable {v:Θ}{f:FuncId}
section
variable{P:ϛ}{main:Bool}{K:ϑ}{A:Ξ}{X:Ϥ}{Stop:(ϑ)->Ϛ->Ξ}{O:ϑ}{g:Ϛ}{w:Δ}
def j2(i:g.status=.running)(h:∀a,Rely O K A w a->∃d c e,stepG P main g a=.go d c e/\Guar O K X a c e/\Pm.Way P main K A X Stop (grow O a c) d c):Pm.Way P main K A X Stop O g w:=by refine .step i (λa b=>?_) λa d c e b k=>?_;let⟨d,c,e,j,l,_⟩:=h a b;exact⟨d,c,e,j,l⟩;let⟨p,o,n,j,_,m⟩:=h a b;rw[j]at k;obtain⟨rfl,rfl,_⟩:=aF k;exact m
theorem au{d:Ϛ}(b:g.status=.running)(h:∀a,stepG P main g a=.go d a)(k:Pm.Way P main K A X Stop O d w):Pm.Way P main K A X Stop O g w:=
 j2 b λa c=>⟨d,a,#[],h a,Pm.cN ς,by rw[Pm.bH O rfl];exact k.rely c⟩
def j1{c:FuncId}{w b:Δ}{a:Array Event}(h:Guar O K X w b a):Guar O K X w b (seen P c a):={h with c:=λe d=>h.c e (Pm.jB P c a e d)}
variable {b:Frame}{a:Act}{k:List Item}{cs:List Frame}{ops:Array Oper}{i:Nat}{rest:Ϙ}{o:Oper}
def ag(n:ops[i]?=some o)(j:Region.wanted o (yielded ops a.tmps)=true)(m:b.kind≠.early)(l:∀c,Rely O K A w c->(execOp a.eval o).run P c=.ok (.value v) c/\∀e∈(execOp a.eval o).events P c #[],Ev O K e)(h:Pm.Way P main K A X Stop O (G (b.at (a.put o.dst v) (.inRegion ops rest::k)) cs) w):Pm.Way P main K A X Stop O (G (b.at a (.inRegion ops (i::rest)::k)) cs) w:=
 j2 rfl λc d=>⟨_,c,_,stepG_value n j m (l c d).1,j1 (Pm.cN λe p=>ν),by rw[Pm.bH O rfl];exact h.rely d⟩
def sr(d:ops[i]?=some o)(c:Region.wanted o (yielded ops a.tmps)=false)(h:Pm.Way P main K A X Stop O (G (b.at (a.put o.dst undef) (.inRegion ops rest::k)) cs) w):Pm.Way P main K A X Stop O (G (b.at a (.inRegion ops (i::rest)::k)) cs) w:=
 au rfl (λ_=>stepG_unwanted d c) h
def AY{d:ϡ}(p:ops[i]?=some o)(l:Region.wanted o (yielded ops a.tmps)=true)(n:b.kind≠.early)(m:∀c,(execOp a.eval o).run P c=.ok (.enter f d) c/\(execOp a.eval o).events P c #[]=#[])(h:Pm.Way P main K A X Stop O (G (Frame.enter P f d .normal) (b.at a (.inRegion ops (i::rest)::k)::cs)) w):Pm.Way P main K A X Stop O (G (b.at a (.inRegion ops (i::rest)::k)) cs) w:=
 j2 rfl λc j=>⟨_,c,_,stepG_enter p l n (m c).1,j1 (Pm.cN λe q=>by grind),by rw[Pm.bH O rfl];exact h.rely j⟩
def dS{fn:Func}{args:Array Operand}{j:Array TypeId}(q:ops[i]?=some o)(n:Region.wanted o (yielded ops a.tmps)=true)(p:b.kind≠.early)(e:o.op=.call {callee:=.value (.func f),args,argTypes:=j})(m:P.funcs[f]? =some fn)(c:(fn.name== "runtime.NumGoroutine")=false)(l:fn.body.isNone=false)(h:Pm.Way P main K A X Stop O (G (Frame.enter P f (args.map a.eval) .normal) (b.at a (.inRegion ops (i::rest)::k)::cs)) w):Pm.Way P main K A X Stop O (G (b.at a (.inRegion ops (i::rest)::k)) cs) w:=
 AY q n p (λ_=>⟨run_call_body e m c l,events_call_body e m c l _⟩) h
def xp(O:ϑ)(w:Δ)(c:Obj):grow O w (w.alloc c)=λb=>O b\/b=w.heap.size:=by funext b;have d:(w.alloc c).heap.size=w.heap.size+1:=ς;grind[grow]
def eP{f:Δ->Obj}(q:ops[i]?=some o)(l:Region.wanted o (yielded ops a.tmps)=true)(p:b.kind≠.early)(m:∀d,Rely O K A w d->(execOp a.eval o).run P d=.ok (.value (pT d 0)) (d.alloc (f d))/\(execOp a.eval o).events P d #[]=#[])(h:∀d,Rely O K A w d->Pm.Way P main K A X Stop (λb=>O b\/b=d.heap.size) (G (b.at (a.put o.dst (pT d 0)) (.inRegion ops rest::k)) cs) (d.alloc (f d))):Pm.Way P main K A X Stop O (G (b.at a (.inRegion ops (i::rest)::k)) cs) w:=
 j2 rfl λd j=>⟨_,_,_,stepG_value q l p (m d j).1,j1 ⟨λc n _=>RowKit.Below.heap_alloc _ _ _ n,ς,rfl,rfl,λe r=>ν⟩,by rw[xp];exact h d j⟩
def j3{ad:Addr}(x:ops[i]?=some o)(q:Region.wanted o (yielded ops a.tmps)=true)(t:b.kind≠.early)(n:O ad.block)(m:∀d,Rely O K A w d->(execOp a.eval o).run P d=.ok .skip (d.setCell ad v)/\∀e∈(execOp a.eval o).events P d #[],e.loc=.cell ad)(h:∀d,Rely O K A w d->Pm.Way P main K A X Stop O (G (b.at (a.put o.dst undef) (.inRegion ops rest::k)) cs) (d.setCell ad v)):Pm.Way P main K A X Stop O (G (b.at a (.inRegion ops (i::rest)::k)) cs) w:=by
 refine j2 rfl λd j=>?_;have l:=aside_setCell d ad v;have p:=Pm.bH O l.size;refine⟨_,_,_,stepG_none x q t (m d j).1,j1 ⟨λc _ s=>l.block c λe=>s (e▸n),ς,l.tape,Pm.oV l.os l.output,λe r=>.inl ?_⟩,by rw[p];exact h d j⟩;have:=(m d j).2 e r;let⟨u,z,y⟩:=e;subst this;exact .inl (by rwa [p])
def ik(ops:Array Oper):Nat->Array Bool->List (Ϙ)
 |0,_=>[[]]
 |fuel+1,listed=>if (Region.ready .any ops listed).isEmpty then [[]] else (Region.ready .any ops listed).flatMap λi=>(ik ops fuel (listed.setIfInBounds i true)).map (i::·)
def sq(d:Array Oper):∀(e t:Nat)(c:Array Bool),Region.linearise.go .any d e t c []∈ik d e c:=by
 intro e;induction e with
 |zero=>simp[ik,Region.linearise.go]
 |succ e p=>
  intro t c;change (match (Region.ready .any d _)[t%(Region.ready .any d _).length]? with
   |some i=>Region.linearise.go .any d e _ _ [i]
   |none=>[].reverse)∈_
  rcases q:(Region.ready .any d _)[t%(Region.ready .any d _).length]? with _|i
  .have h:Region.ready .any d c=[]:=by
    cases m:Region.ready .any d _ with
    |nil=>rfl
    |cons x l=>
     simp_all[Nat.mod_lt]
   grind[ik]
  simp only[];rw[linearise_go_acc,List.reverse_singleton,List.singleton_append];have j:(Region.ready .any d c).isEmpty=false:=by
   cases m:Region.ready .any d _ with
   |nil=>grind
   |cons x l=>rfl
  simp only[ik,j,yH,if_false];grind
def jw{j:Nat}(n:P.follows .mixedOrders=true){L:List (Ϙ)}(m:ik ops ops.size (Array.replicate ops.size false)=L)(p:∀w d,A w->A (w.at d))(h:∀l∈L,Pm.Way P main K A X Stop O (G (b.at a (.inRegion ops l::k)) cs) w):Pm.Way P main K A X Stop O (G (b.at a (.code (.region j ops true)::k)) cs) w:=by
 refine j2 rfl λc e=>⟨_,_,#[],stepG_region_draw,⟨λ_ _ _=>rfl,Ϫ,rfl,rfl,ς⟩,?_⟩;rw[Pm.bH O (w:=c) (w':={c with drawn:=c.drawn+1}) rfl];have:=sq ops ops.size (c.tape c.drawn (.order b.fn j)) (Array.replicate ops.size false);rw[m]at this;simp only[Region.schedule,n,Bool.true_or,if_true];exact(h _ this).rely (e.e (xr p c _))
end
section
variable {P:ϛ}{ty:ϟ}{Post:Θ->Ξ}{Wg:Nat}{Qs:List bE}{tag:nX}{O K:ϑ}{g:Ϛ}{w:Δ}
def aC.c{Stop:(ϑ)->Ϛ->Ξ}(h:Pm.Way P true K (Al ty Wg tag) (XS Wg tag) Stop O g w)(k:∀O g w,(∀a,Rely O K (Al ty Wg tag) w a->Stop O g a)->aC P ty Post Wg Qs tag O K g w):aC P ty Post Wg Qs tag O K g w:=by
 induction h with
 |stop h=>grind
 |step b c _ d=>exact .idle b c d
end
