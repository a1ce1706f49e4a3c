import Derived.Conc.CompanyDraw
import Derived.Conc.DeferLaws
import Derived.Test.YtoklolfaemhfnaaGreatDoorZbf
set_option maxRecDepth 100000
set_option maxHeartbeats 0
set_option linter.defProp false
namespace Go.Cr
section
open Go Go.Conc
open Go.Pm (Rely Guar Ev grow)
variable {v:Value}{f:FuncId}
section
variable {P:Program}{main:Bool}{K:Nat->Prop}{A:World->Prop}{X:Event->Prop}{Stop:(Nat->Prop)->Goroutine->World->Prop}{O:Nat->Prop}{g:Goroutine}{w:World}
def j2(i:g.status=.running)(h:∀a,Rely O K A w a->∃d c e,stepG P main g a=.go d c e/\Guar O K X a c e/\Go.Pm.Way P main K A X Stop (grow O a c) d c):Go.Pm.Way P main K A X Stop O g w:=by
 refine .step i (fun a b=>?_) fun a d c e b k=>?_
 ·obtain⟨d,c,e,j,l,_⟩:=h a b;exact⟨d,c,e,j,l⟩
 ·obtain⟨p,o,n,j,_,m⟩:=h a b;rw[j] at k;obtain⟨rfl,rfl,_⟩:=aF k;exact m
def au{d:Goroutine}(b:g.status=.running)(h:∀a,stepG P main g a=.go d a)(k:Go.Pm.Way P main K A X Stop O d w):Go.Pm.Way P main K A X Stop O g w:=
 j2 b fun a c=>⟨d,a,#[],h a,Go.Pm.cN ς,by rw[Go.Pm.bH O rfl];exact k.rely c⟩
def j1{c:FuncId}{w b:World}{a:Array Event}(h:Guar O K X w b a):Guar O K X w b (seen P c a):=⟨h.a,h.size,h.tape,h.d,fun e d=>h.c e (Go.Pm.jB P c a e d)⟩
variable {b:Frame}{a:Act}{k:List Item}{cs:List Frame}{ops:Array Oper}{i:Nat}{rest:List Nat}{o:Oper}
def ag(n:ops[i]?=some o)(j:Region.wanted o (yielded ops a.tmps)=true)(m:b.kind≠.early)
 (l:∀c,Rely O K A w c->(execOp a.eval o).run P c=.ok (.value v) c/\∀e∈(execOp a.eval o).events P c #[],Ev O K e)
 (h:Go.Pm.Way P main K A X Stop O (G (b.at (a.put o.dst v) (.inRegion ops rest::k)) cs) w):Go.Pm.Way P main K A X Stop O (G (b.at a (.inRegion ops (i::rest)::k)) cs) w:=
 j2 rfl fun c d=>⟨_,c,_,stepG_value n j m (l c d).1,j1 (Go.Pm.cN fun e p=>ν),by rw[Go.Pm.bH O rfl];exact h.rely d⟩
def sr(d:ops[i]?=some o)(c:Region.wanted o (yielded ops a.tmps)=false)
 (h:Go.Pm.Way P main K A X Stop O (G (b.at (a.put o.dst undef) (.inRegion ops rest::k)) cs) w):Go.Pm.Way P main K A X Stop O (G (b.at a (.inRegion ops (i::rest)::k)) cs) w:=
 au rfl (fun _=>stepG_unwanted d c) h
def AY{d:Array Value}(p:ops[i]?=some o)(l:Region.wanted o (yielded ops a.tmps)=true)(n:b.kind≠.early)
 (m:∀c,(execOp a.eval o).run P c=.ok (.enter f d) c/\(execOp a.eval o).events P c #[]=#[])
 (h:Go.Pm.Way P main K A X Stop O (G (Frame.enter P f d .normal) (b.at a (.inRegion ops (i::rest)::k)::cs)) w):Go.Pm.Way P main K A X Stop O (G (b.at a (.inRegion ops (i::rest)::k)) cs) w:=
 j2 rfl fun c j=>⟨_,c,_,stepG_enter p l n (m c).1,j1 (Go.Pm.cN fun e q=>by grind),by rw[Go.Pm.bH O rfl];exact h.rely j⟩
def dS{fn:Func}{args:Array Operand}{j:Array TypeId}(q:ops[i]?=some o)(n:Region.wanted o (yielded ops a.tmps)=true)(p:b.kind≠.early)(e:o.op=.call { callee:=.value (.func f),args,argTypes:=j })
 (m : P.funcs[f]? = some fn) (c : (fn.name == "runtime.NumGoroutine") = false) (l : fn.body.isNone = false)
 (h:Go.Pm.Way P main K A X Stop O (G (Frame.enter P f (args.map a.eval) .normal) (b.at a (.inRegion ops (i::rest)::k)::cs)) w):Go.Pm.Way P main K A X Stop O (G (b.at a (.inRegion ops (i::rest)::k)) cs) w:=
 AY q n p (fun _=>⟨run_call_body e m c l,events_call_body e m c l _⟩) h
def xp(O:Nat->Prop)(w:World)(c:Obj):grow O w (w.alloc c)=fun b=>O b\/b=w.heap.size:=by
 funext b;have d:(w.alloc c).heap.size=w.heap.size+1:=ς;simp only[grow,d];grind
def eP{f:World->Obj}(q:ops[i]?=some o)(l:Region.wanted o (yielded ops a.tmps)=true)(p:b.kind≠.early)
 (m:∀d,Rely O K A w d->(execOp a.eval o).run P d=.ok (.value (pT d 0)) (d.alloc (f d))/\(execOp a.eval o).events P d #[]=#[])
 (h:∀d,Rely O K A w d->Go.Pm.Way P main K A X Stop (fun b=>O b\/b=d.heap.size) (G (b.at (a.put o.dst (pT d 0)) (.inRegion ops rest::k)) cs) (d.alloc (f d))):Go.Pm.Way P main K A X Stop O (G (b.at a (.inRegion ops (i::rest)::k)) cs) w:=
 j2 rfl fun d j=>⟨_,_,_,stepG_value q l p (m d j).1,j1 ⟨fun c n _=>Go.RowKit.Below.heap_alloc _ _ _ n,ς,rfl,rfl,fun e r=>ν⟩,by rw[xp];exact h d j⟩
def j3{ad:Addr}(x:ops[i]?=some o)(q:Region.wanted o (yielded ops a.tmps)=true)(t:b.kind≠.early)(n:O ad.block)
 (m:∀d,Rely O K A w d->(execOp a.eval o).run P d=.ok .skip (d.setCell ad v)/\∀e∈(execOp a.eval o).events P d #[],e.loc=.cell ad)
 (h:∀d,Rely O K A w d->Go.Pm.Way P main K A X Stop O (G (b.at (a.put o.dst undef) (.inRegion ops rest::k)) cs) (d.setCell ad v)):Go.Pm.Way P main K A X Stop O (G (b.at a (.inRegion ops (i::rest)::k)) cs) w:=by
 refine j2 rfl fun d j=>?_;have l:=aside_setCell d ad v;have p:=Go.Pm.bH O l.size;refine⟨_,_,_,stepG_none x q t (m d j).1,j1 ⟨fun c _ s=>l.block c fun e=>s (e▸n),ς,l.tape,Go.Pm.oV l.os l.output,fun e r=>.inl ?_⟩,by rw[p];exact h d j⟩;have:=(m d j).2 e r;obtain⟨u,z,y⟩:=e;subst this;exact .inl (by rw[p];exact n)
def ik(ops:Array Oper):Nat->Array Bool->List (List Nat)
 |0,_=>[[]]
 |fuel+1,listed=>if (Region.ready .any ops listed).isEmpty then [[]] else (Region.ready .any ops listed).flatMap fun i=>(ik ops fuel (listed.setIfInBounds i true)).map (i::·)
def sq(d:Array Oper):∀(e t:Nat) (c:Array Bool),Region.linearise.go .any d e t c []∈ik d e c:=by
 intro e;induction e with
 |zero=>simp[ik,Region.linearise.go]
 | succ e p =>
   intro t c;change (match (Region.ready .any d _)[t % (Region.ready .any d _).length]? with
    |some i=>Region.linearise.go .any d e _ _ [i]
    |none=>[].reverse)∈_
   cases q:(Region.ready .any d _)[t % (Region.ready .any d _).length]? with
   | none =>
     have h:Region.ready .any d c=[]:=by
      cases m:Region.ready .any d _ with
      |nil=>rfl
      | cons x l =>
        have n:t % (x::l).length<(x::l).length:=Nat.mod_lt _ ς;grind
     simp[ik,h]
   | some i =>
     simp only[];rw[linearise_go_acc,List.reverse_singleton,List.singleton_append];have j:(Region.ready .any d c).isEmpty=false:=by
      cases m:Region.ready .any d _ with
      |nil=>grind
      |cons x l=>rfl
     simp only[ik,j,yH,if_false];grind
def jw{j:Nat}(n:P.follows .mixedOrders=true){L:List (List Nat)}(m:ik ops ops.size (Array.replicate ops.size false)=L)(p:∀w d,A w->A (w.at d))(h:∀l∈L,Go.Pm.Way P main K A X Stop O (G (b.at a (.inRegion ops l::k)) cs) w) :
 Go.Pm.Way P main K A X Stop O (G (b.at a (.code (.region j ops true)::k)) cs) w:=by
 refine j2 rfl fun c e=>⟨_,_,#[],stepG_region_draw,⟨fun _ _ _=>rfl,yb _,rfl,rfl,ς⟩,?_⟩;rw[Go.Pm.bH O (w:=c) (w':={ c with drawn:=c.drawn+1 }) rfl];have:=sq ops ops.size (c.tape c.drawn (.order b.fn j)) (Array.replicate ops.size false);rw[m] at this;simp only[Region.schedule,n,Bool.true_or,if_true];exact(h _ this).rely (e.e (xr p c _))
end
section
variable {P:Program}{ty:TypeId}{Post:Value->World->Prop}{Wg:Nat}{Qs:List bE}{tag:nX}{O K:Nat->Prop}{g:Goroutine}{w:World}
def aC.c{Stop:(Nat->Prop)->Goroutine->World->Prop}(h:Go.Pm.Way P true K (Al ty Wg tag) (XS Wg tag) Stop O g w)(k:∀O g w,(∀a,Rely O K (Al ty Wg tag) w a->Stop O g a)->aC P ty Post Wg Qs tag O K g w):aC P ty Post Wg Qs tag O K g w:=by
 induction h with
 |stop h=>exact k _ _ _ h
 |step b c _ d=>exact .idle b c d
end
