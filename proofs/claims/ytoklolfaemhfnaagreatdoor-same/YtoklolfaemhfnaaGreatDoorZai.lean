import Derived.Test.YtoklolfaemhfnaaGreatDoorZah
set_option maxRecDepth 100000
set_option maxHeartbeats 0
set_option linter.defProp false
namespace Go.Pm
section
open Go
def rp(b:Builtin)(_:Nat):Bool:=
 match b with
 |.append|.clear|.copy|.delete|.len|.max|.min|.unsafeString=>true
 |_=>false
mutual
def qv:Value->Bool
 |.bool _|.int _ _|.float _ _|.complex _ _ _|.string _|.nilFunc|.nilIface=>true
 |.pointer a|.slice a _ _=>a.isNone
 |.map r|.chan r=>r.isNone
 |.func _ _ _=>false
 |.iface _ v=>qv v
 |.agg cs|.tuple cs=>Dd cs
def Dd:Array Value->Bool
 |⟨l⟩=>zM l
def zM:List Value->Bool
 |[]=>true
 |v::l=>qv v&&zM l
end
mutual
def lN(b:Perm):∀v:Value,qv v=true->v.pm b=v
 |.bool _,_|.int _ _,_|.float _ _,_|.complex _ _ _,_|.string _,_|.nilFunc,_|.nilIface,_=>ς
 |.pointer a,h=>by cases a<;>simp_all[qv]
 |.slice a _ _,h=>by cases a<;>simp_all[qv]
 |.map a,h=>by cases a<;>simp_all[qv]
 |.chan a,h=>by cases a<;>simp_all[qv]
 |.func _ _ _,h=>by simp[qv]at h
 |.iface t v,h=>by simp[lN b v h]
 |.agg c,h=>by have:=uu b c h;rw[fp]at this;simp[*]
 |.tuple c,h=>by have:=uu b c h;rw[fp]at this;simp[*]
def uu(b:Perm):∀a:Array Value,Dd a=true->zO b a=a
 |⟨l⟩,h=>by simp only[Dd]at h;simp only[zO,uv b l h]
def uv(b:Perm):∀l:List Value,zM l=true->xi b l=l
 |[],_=>by simp[xi]
 |v::l,h=>by simp only[zM,yB]at h;simp[xi,lN b v h.1,uv b l h.2]
end
def Be(_:Program)(F:Nat->Bool):Operand->Bool
 |.tmp _=>true
 |.const v=>qv v
 |.global _=>false
 |.func f=>F f
def uH(P:Program)(F:Nat->Bool)(o:Op):Bool:=
 o.operands.all (Be P F)&&
 match o with
 |.move _|.assign _|.pick .. |.alloc _|.box .. |.build .. |.buildSlice .. |.load .. |.store .. |.nilCheck _|.binOp .. |.unOp .. |.makeInterface .. |.makeMap ..
 |.makeSlice .. |.slice .. |.fieldAddr ..  |.indexAddr .. |.index .. |.lookup .. |.mapUpdate .. |.range .. |.next .. |.entry _|.extract .. |.panic _=>true
 |.convert s d _=>!(P.underlying s matches some .unsafePointer)&& !(P.underlying d matches some .unsafePointer)
 |.makeFunc fn ..=>match fn with|.func f=>F f|_=>false
 |.call c=>match c.callee with|.builtin b=>rp b c.args.size|.value _=>true|.invoke ..=>false
 |_=>false
section
variable {P:Program}{π:Perm}(S:dE P π)
omit S in
def ay.d0:∀(n:Nat){a:Addr}{c:ByteArray},ay P π (λx=>x) (Go.loadBytes (a.pm π) c n) (Go.loadBytes a c n)
 |0,_,_=>ay.c rfl
 |n+1,a,c=>by
   refine ay.a ay.i2 λv=>?_;cases v with
   |int k b=>
    cases k<;>first|(rw[<-eQ];exact ay.d0 n)|exact ay.d _
   |_=>exact ay.d _
include S in
def ay.e0{d:Array TypeId}{t:TypeId}{c:Array Θ}:ay P π (Value.pm π) (Go.Builtin.unsafeString_ d t (c.map (Value.pm π))) (Go.Builtin.unsafeString_ d t c):=by
 have f:∀(p:Option Addr)(y:Θ),ay P π (Value.pm π) (Go.Builtin.unsafeString_ d t #[.pointer (p.map (Addr.pm π)),y.pm π]) (Go.Builtin.unsafeString_ d t #[.pointer p,y]):=λp y=>by
  refine ay.a ay.b2 λn=>?_;cases d[0]? with
  |none=>exact ay.d _
  |some g=>
   refine ay.n yK (ay.f S _) (ay.n yK (ay.b _) ?_);rcases p with _|a;exact ay.i yK (ay.c rfl) (ay.f S _);refine ay.i yK (ay.c rfl) ?_;refine ay.a ay.g7 λe=>ay.a ay.f4 λb=>?_;cases b;exact ay.b _;exact ay.a (ay.d0 _) λs=>ay.a ay.j0 λ_=>ay.c rfl
 let⟨l⟩:=c;have e:(Array.mk l).map (Value.pm π)=Array.mk (l.map (Value.pm π)):=ς;rw[e];match l with
 |[]=>exact(ay.d _)
 |[x]=>exact(ay.d _)
 |x::y::z::r=>exact(ay.d _)
 |[x,y]=>
  cases x with
  |pointer p=>have:=f p y;simpa only[yN,Cx,bh]using this
  |_=>exact(ay.d _)
end
section
variable {P:Program}{π:Perm}(S:dE P π){F:Nat->Bool}{α β:Type}
def ay.s{s a:Sem Θ}(h:ay P π (Value.pm π) a s):ay P π (Next.pm π) (do Pure.pure (.value (<-a))) (do Pure.pure (.value (<-s))):=ay.a h λ_=>ay.c rfl
def ay.j9{s a:Sem Unit}(h:ay P π (λx=>x) a s):ay P π (Next.pm π) (do a;Pure.pure .skip) (do s;Pure.pure .skip):=ay.a h λ_=>ay.c rfl
include S in
def ay.e7{ρ ρ':Operand->Θ}(j:∀x,Be P F x=true->ρ' x=(ρ x).pm π)(X:∀f,F f=true->π.g f=f)(I:∀x,Be P F x=true->G5 P π (ρ x)){o:Oper}(G:uH P F o.op=true)(N:∀x,o.op≠.panic x):ay P π (Next.pm π) (Go.execOp ρ' o) (Go.execOp ρ o):=by
 unfold uH at G;rw[yB]at G;let⟨V,w⟩:=G;have h:∀x∈o.op.operands,Be P F x=true:=λx H=>by have:=Ku.1 V x H;omega
 unfold Go.execOp;have B:∀x:Option Operand,(∀y∈x,Be P F y=true)->x.map ρ'=(x.map ρ).map (Value.pm π):=λx H=>by rcases x with _|y;rfl;grind
 have A:∀C:Array (Nat×Operand),(∀y∈C,Be P F y.2=true)->(C.map λx=>(x.1,ρ' x.2))=(C.map λx=>(x.1,ρ x.2)).map λx=>(x.1,x.2.pm π):=λC H=>by rw[Array.map_map];grind
 have D:∀C:Array Operand,(∀y∈C,Be P F y=true)->C.map ρ'=(C.map ρ).map (Value.pm π):=λC H=>by grind
 cases q:o.op with
 |move x=>rw[q]at h;dsimp only;rw[j x (h x (by simp[Op.operands]))];exact ay.c rfl
 |assign x=>rw[q]at h;dsimp only;rw[j x (h x (by simp[Op.operands]))];exact ay.c rfl
 |pick c a b=>
  rw[q]at h;dsimp only;rw[j c (h c (by simp[Op.operands])),j a (h a (by simp[Op.operands])),j b (h b (by simp[Op.operands]))];exact ay.a ay.c3 λb=>ay.c (by cases b<;>rfl)
 |alloc e=>exact ay.s (by have:=ay.k0 S (t:=e) (b:=true) (old:=.tuple #[]);simpa using this)
 |box e x=>rw[q]at h;dsimp only;rw[j x (h x (by simp[Op.operands]))];exact ay.s ay.m2
 |build t C=>
  rw[q]at h;dsimp only;rw[A C λy z=>h y.2 (by simp only[Op.operands,Cy,yW];grind)];exact ay.s (ay.k7 S)
 |buildSlice t n C=>
  rw[q]at h;dsimp only;rw[A C λy z=>h y.2 (by simp only[Op.operands,Cy,yW];grind)];exact ay.s (ay.f6 S)
 |load t a=>rw[q]at h;dsimp only;rw[j a (h a (by simp[Op.operands]))];exact ay.s ay.j3
 |store t a x=>rw[q]at h;dsimp only;rw[j a (h a (by simp[Op.operands])),j x (h x (by simp[Op.operands]))];exact ay.j9 ay.i7
 |nilCheck x=>
  rw[q]at h;dsimp only;have H:=h x (by simp[Op.operands]);rw[j x H];have L:=I x H;generalize ρ x=v at L;cases v with
  |pointer a=>cases a<;>first|exact ay.f S _|exact ay.c rfl
  |nilIface=>exact ay.f S _
  |nilFunc=>exact ay.f S _
  |func K u p=>
   obtain⟨f,fd,rfl,_⟩:=L _ _ _ rfl;exact ay.c rfl
  |_=>exact ay.c rfl
 |binOp op t x y yt=>rw[q]at h;dsimp only;rw[j x (h x (by simp[Op.operands])),j y (h y (by simp[Op.operands]))];exact ay.s (ay.a ay.h6 λ_=>ay.k4 S)
 |unOp op t x=>rw[q]at h;dsimp only;rw[j x (h x (by simp[Op.operands]))];exact ay.s ay.l4
 |convert s d x=>
  rw[q]at h w;dsimp only;rw[j x (h x (by simp[Op.operands]))];refine ay.s (ay.h5 ⟨λe=>?_,λe=>?_⟩);simp[e]at w;simp[e]at w
 |makeInterface t x=>rw[q]at h;dsimp only;rw[j x (h x (by simp[Op.operands]))];exact ay.s ay.d2
 |makeFunc K u p=>
  rw[q]at h w;dsimp only;rw[D u λy z=>h y (by simp[Op.operands,z]),D p λy z=>h y (by simp[Op.operands,z])];have M:K.pm π=K:=by cases K<;>first|(simp only at w;simp[Fn.pm,X _ w])|cases w
  exact ay.s (ay.c (by simp[M]))
 |makeMap t r=>rw[q]at h;dsimp only;rw[B r λy z=>h y (by cases z;simp[Op.operands])];exact ay.s ay.i3
 |makeSlice t l c=>rw[q]at h;dsimp only;rw[j l (h l (by simp[Op.operands])),j c (h c (by simp[Op.operands]))];exact ay.s (ay.g4 S)
 |slice t x U Y Z=>
  rw[q]at h;dsimp only;rw[j x (h x (by simp[Op.operands])),B U λy z=>h y (by cases z;simp[Op.operands]),B Y λy z=>h y (by cases z;simp[Op.operands]),B Z λy z=>h y (by cases z;simp[Op.operands])];exact ay.s (ay.i6 S)
 |fieldAddr s x f=>rw[q]at h;dsimp only;rw[j x (h x (by simp[Op.operands]))];exact ay.s ay.h8
 |indexAddr t x E=>rw[q]at h;dsimp only;rw[j x (h x (by simp[Op.operands])),j E (h E (by simp[Op.operands]))];exact ay.s (ay.h9 S)
 |index t x E=>rw[q]at h;dsimp only;rw[j x (h x (by simp[Op.operands])),j E (h E (by simp[Op.operands]))];exact ay.s (ay.l1 S)
 |lookup t x E b=>rw[q]at h;dsimp only;rw[j x (h x (by simp[Op.operands])),j E (h E (by simp[Op.operands]))];exact ay.s (ay.j4 S)
 |mapUpdate t m k x=>rw[q]at h;dsimp only;rw[j m (h m (by simp[Op.operands])),j k (h k (by simp[Op.operands])),j x (h x (by simp[Op.operands]))];exact ay.j9 (ay.g5 S)
 |range t x=>rw[q]at h;dsimp only;rw[j x (h x (by simp[Op.operands]))];exact ay.s ay.range
 |next x b=>rw[q]at h;dsimp only;rw[j x (h x (by simp[Op.operands]))];exact ay.s ay.m0
 |entry x=>rw[q]at h;dsimp only;rw[j x (h x (by simp[Op.operands]))];exact ay.s ay.k9
 |extract x i=>rw[q]at h;dsimp only;rw[j x (h x (by simp[Op.operands]))];exact ay.s ay.h7
 |panic x=>exact absurd q (N x)
 |call c=>
  rw[q]at h w;dsimp only at w⊢;unfold Go.resolve;rw[D c.args λy z=>h y (by simp[Op.operands,Call.operands,z])];cases Q:c.callee with
  |value f=>
   have M:=h f (by simp[Op.operands,Call.operands,Q]);dsimp only;rw[j f M];have L:=I f M;generalize ρ f=v at L;cases v with
   |func K u p=>
    obtain⟨W,fd,rfl,T,R,O⟩:=L _ _ _ rfl;rw[sI];have:=ay.h1 (P:=P) (π:=π) (f:=W) (args:=u++c.args.map ρ++p) T R O;simp only[IY]at this;simp only[Fn.pm,T];exact this
   |nilFunc=>exact(show ay P π (Next.pm π) (Go.runtimePanic .nilDeref:Sem Next) (Go.runtimePanic .nilDeref:Sem Next) from ay.f S _)
   |_=>exact ay.d _
  |invoke r n=>rw[Q]at w;cases w
  |builtin b=>
   rw[Q]at w;dsimp only at w⊢;cases b with
   |append=>exact ay.s (ay.i8 S)
   |clear=>exact ay.s (ay.k8 S)
   |copy=>exact ay.s ay.copy
   |delete=>exact ay.s (ay.i9 S)
   |len=>exact ay.s ay.m4
   |max=>exact ay.s ay.m5
   |min=>exact ay.s ay.m6
   |unsafeString=>exact ay.s (ay.e0 S)
   |_=>cases w
 |_=>rw[q]at w;cases w
end
variable {r n:Nat}{a:Addr}{σ:Perm}
def qx(b c:Perm)(d:Deferred):(d.pm c).pm b=d.pm (b.Mg c):=by let⟨t,a⟩:=d;cases t<;>simp[Deferred.pm,Target.pm,oW,Function.comp_def,pm_comp]
def Bd(b c:Perm)(n:Next):(n.pm c).pm b=n.pm (b.Mg c):=by cases n<;>simp[Next.pm,pm_comp,qx,Function.comp_def]<;>rfl
def Ba(d g:Perm)(h:Halt):(h.pm g).pm d=h.pm (d.Mg g):=by
 cases h with
 |panic v=>simp[Halt.pm,pm_comp]
 |unsupported u=>cases u<;>rfl
 |stuck s=>rfl
 |exit c=>
  by_cases i:c=0
  .subst i;cases e:g.b<;>cases f:d.b<;>simp[Halt.pm,dF,Perm.Mg,e,f]
  cases e:g.b<;>cases f:d.b<;>simp[Halt.pm,dF,Perm.Mg,e,f,i]
 |_=>cases e:g.b<;>cases f:d.b<;>simp[Halt.pm,dF,Perm.Mg,e,f]
def qA(b:Perm)(m:Mark):ee b (dG m)=dG (ee b m):=by cases m<;>rfl
def qz(b c:Perm)(m:Mark):ee b (ee c m)=ee (b.Mg c) m:=by cases m<;>simp[ee,bZ]
def Bc(c d:Perm)(m:Mark):(m.pm d).pm c=m.pm (c.Mg d):=by have e:(c.Mg d).b=(c.b !=d.b):=rfl;unfold Mark.pm;rw[e,<-qz];cases f:d.b<;>cases g:c.b<;>simp[qA,qy]
def uI{c:Perm}(l:∀x,c.f x=σ.f x)(e:∀x,c.g x=σ.g x)(d:∀x,c.h x=σ.h x)(q:c.b=σ.b):c=σ:=by
 have m:∀x,c.i x=σ.i x:=λx=>by rw[<-σ.a (c.i x),<-l,c.c]
 have p:∀x,c.j x=σ.j x:=λx=>by rw[<-σ.d (c.j x),<-e,c.e]
 have o:∀x,c.k x=σ.k x:=λx=>by rw[<-σ.m (c.k x),<-d,c.l]
 cases c;cases σ;obtain rfl:=funext l;obtain rfl:=funext e;obtain rfl:=funext d;obtain rfl:=funext m;obtain rfl:=funext p;obtain rfl:=funext o;grind
def uC(b c:Perm):(b.Mg c).MS=c.MS.Mg b.MS:=
 uI (λ_=>rfl) (λ_=>rfl) (λ_=>rfl) (by simp only[Perm.Mg,Perm.MS];grind)
def nw(b c:Perm):b.Mg (b.MS.Mg c)=c:=
 uI (λx=>b.c _) (λx=>b.e _) (λx=>b.l _) (by simp only[Perm.Mg,Perm.MS];simp)
def Db{f:Type}{H:Perm->f->f}(g:∀e d a,H e (H d a)=H (e.Mg d) a)(e d:Perm)(s:Sem f):(s.bN d (H d)).bN e (H e)=s.bN (e.Mg d) (H (e.Mg d)):=by
 induction s with
 |pure a=>simp[Sem.bN,g]
 |halt h=>simp[Sem.bN,Ba]
 |store m a v k b=>simp only[Sem.bN,b,bZ,pm_comp]
 |freeze a n k b=>simp only[Sem.bN,b,bZ]
 |setObj r o k b=>simp only[Sem.bN,b,obj_comp];rfl
 |mark m k b=>simp only[Sem.bN,b,Bc]
 |load m a k b=>simp only[Sem.bN,bZ];congr 1;funext v;rw[b,pm_comp,uC]
 |getObj r k b=>simp only[Sem.bN];congr 1;funext o;rw[b,obj_comp,uC]
 |new o k b=>simp only[Sem.bN,obj_comp];congr 1;funext r;rw[b];rfl
 |frozen a k b=>simp only[Sem.bN,bZ];congr 1;funext r;rw[b]
 |shape a k b=>simp only[Sem.bN];congr 1;funext r;rw[b]
 |sys c k b=>rfl
 |_=>simp only[Sem.bN];congr 1;funext r;rename_i b;rw[b]
structure Fam where
 c:Nat->Bool
 leaf:Nat->Bool
 gs:Nat
 d:2<=gs
instance:CoeFun Fam λ_=>Nat->Bool:=⟨Fam.c⟩
instance:Coe Fam (Nat->Bool):=⟨Fam.c⟩
def Fam.b(F:Fam)(r:Nat):Prop:=F.gs+5<=r
def cG(F:Fam)(n:Nat)(σ:Perm):Prop:=(∀r,F.b r->r<n->σ.f r=r)/\(∀f,F f=true->σ.g f=f)/\∀r,σ.f r<F.gs↔r<F.gs
def cG.b{F:Fam}{m:Nat}(h:cG F m σ)(d:n<=m):cG F n σ:=⟨λr b c=>h.1 r b ω,h.2⟩
def kF:Perm:={Perm.id with b:=true}
def G9:Perm:={Perm.id with
 h:=λx=>x^^^1
 k:=λx=>x^^^1
 l:=λn=>by rw[Nat.xor_assoc,Nat.xor_self,Nat.xor_zero]
 m:=λn=>by rw[Nat.xor_assoc,Nat.xor_self,Nat.xor_zero]}
def fG(F:Fam)(n:Nat):cG F n kF:=⟨λ_ _ _=>rfl,λ_ _=>rfl,λ_=>yK⟩
def sD(F:Fam)(n:Nat):cG F n G9:=⟨λ_ _ _=>rfl,λ_ _=>rfl,λ_=>yK⟩
def sU(r x y:Nat):(Perm.id.Nn x y).f r=if r=x then y else if r=y then x else r:=rfl
def di{F:Fam}(o:F.gs+5<=n)(h:∀e,cG F n e->e.f r=r):r<n/\F.b r:=by
 have j:=F.d;have b:∀y,y≠r->(∀x,F.b x->x<n->x≠r/\x≠y)->(r<F.gs↔y<F.gs)->False:=by
  intro y i g q;have k:cG F n _:=⟨λx d c=>by
   rw[sU,if_neg (g x d c).1,if_neg (g x d c).2],λ_ _=>rfl,λx=>by
   rw[sU];grind⟩
  have:=h _ k;rw[sU,if_pos rfl]at this;exact i this
 by_cases p:r<n
 .by_cases l:F.b r
  grind
  exfalso
  unfold Fam.b at l;by_cases m:r<F.gs;refine b (if r=0 then 1 else 0) ν (λx d _=>by unfold Fam.b at d;grind) ν;refine b (if r=F.gs then F.gs+1 else F.gs) ν (λx d _=>by unfold Fam.b at d;grind) ν
 exact(b (r+1) ω (λx _ c=>by omega) ω).elim
structure Sim(F:Fam)(π:Perm)(w wa:Δ):Prop where
 c:∀(r:Nat)(o:Obj),F.b r->w.heap[r]?=some o->wa.heap[π.f r]?=some (o.pm π)
 g:∀r,r<F.gs+5->π.f r=r
 d:F.gs+5<=w.heap.size
 e:F.gs+5<=wa.heap.size
 os:wa.os=w.os
 tape:∀i q,w.tape (w.drawn+i) q=wa.tape (wa.drawn+i) q
structure Shut(F:Fam)(w:Δ):Prop where
 b:∀σ,cG F w.heap.size σ->∀(r:Nat)(o:Obj),F.b r->w.heap[r]?=some o->o.pm σ=o
section
variable {F:Fam}{w:Δ}
def Shut.c(h:Shut F w){t:TypeId}(b:F.b r):w.heap[r]?≠some (.view a t):=λe=>by have:=h.b _ (sD F _) r _ b e;simp only[Obj.pm,Obj.view.injEq]at this;exact dP t this.2
def Shut.d(h:Shut F w){a:Array Θ}{t:TypeId}(b:F.b r):w.heap[r]?≠some (.pending a t):=λe=>by have:=h.b _ (sD F _) r _ b e;simp only[Obj.pm,Obj.pending.injEq]at this;exact dP t this.2
def Shut.e(h:Shut F w){o:Obj}(d:F.b r)(e:w.heap[r]?=some o):o.isChan=false:=by
 cases o with
 |chan c b f i g j=>
  have:=h.b _ (fG F _) r _ d e;simp only[Obj.pm,Obj.chan.injEq]at this;exact absurd this.2.2.1 (by simp[kF])
 |_=>rfl
end
structure Ran(F:Fam)(π π':Perm)(w wa w' wa':Δ):Prop where
 d:Sim F π' w' wa'
 m:Shut F w'
 grow:w.heap.size<=w'
 l:wa.heap.size<=wa'
 c:∀r,r<w.heap.size->π'.f r=π.f r
 k:∀r,w.heap.size<=r->r<w'.heap.size->wa.heap.size<=π'.f r
 j:∀b,b<wa.heap.size->(∀r,F.gs+5<=r->r<w.heap.size->π.f r≠b)->wa'.heap[b]?=wa.heap[b]?
 t:∀b,b<F.gs+5->w'.heap[b]?=w.heap[b]?
 tape:w'.tape=w.tape
 o:wa'.tape=wa.tape
 os:w'.os=w.os
 q:wa'.output=wa.output
 e:π'.g=π.g/\π'.h=π.h/\π'.b=π.b
def Ran.i{F:Fam}{b:Perm}{w c:Δ}(h:Sim F b w c)(d:Shut F w):Ran F b b w c w c:=
 ⟨h,d,yb _,yb _,λ_ _=>rfl,λr f e=>ω,λ_ _ _=>rfl,λ_ _=>rfl,rfl,rfl,rfl,rfl,rfl,rfl,rfl⟩
def Ran.s{F:Fam}{s m c:Perm}{w q p g l d:Δ}(h:Ran F s m w q p g)(k:Ran F m c p g l d):Ran F s c w q l d:=by
 refine⟨k.d,k.m,yr h.grow k.grow,yr h.l k.l,λr f=>(k.c r (yg f h.grow)).trans (h.c r f),λr u t=>?_,λb j f=>?_,λb j=>(k.t b j).trans (h.t b j),k.tape.trans h.tape,k.o.trans h.o,k.os.trans h.os,k.q.trans h.q,k.e.1.trans h.e.1,k.e.2.1.trans h.e.2.1,k.e.2.2.trans h.e.2.2⟩
 .by_cases i:r<p
  rw[k.c r i];exact h.k r u i;exact yr h.l (k.k r ω t)
 rw[k.j b (yg j h.l) λr v o e=>?_,h.j b j f];by_cases i:r<w;exact f r v i (by rw[<-h.c r i];exact e);have:=h.k r ω o;omega
section
variable {F:Fam}{π:Perm}{w wa:Δ}
def Sim.k(h:Sim F π w wa)(c:r<w):π.f r<wa:=by
 by_cases b:F.b r
 have:=h.c r _ b (yl c);grind;have:r<F.gs+5:=by unfold Fam.b at b;omega
 rw[h.g r this];have:=h.e;omega
def Sim.b(h:Sim F π w wa)(r:Nat):π.f r<F.gs↔r<F.gs:=by constructor;intro b;have:=π.Nd (h.g (π.f r) ω);omega;intro b;rw[h.g r ω];exact b
def Sim.j(h:Sim F π w wa){v:Θ}(d:F.b a.block)(b:w.cell? a=some v):wa.cell? (a.pm π)=some (v.pm π):=by
 unfold World.cell? at b⊢;simp only[kB,eR,iR];rcases c:w.heap[a.block]? with _|o;grind;rw[c]at b;rw[h.c _ _ d c];cases o<;>simp only[Obj.pm]at b⊢ <;>try cases b
 grind
def Sim.h(h:Sim F π w wa)(b:a.block<w/\F.b a.block):wa.frozen? (a.pm π)=w.frozen? a:=by unfold World.frozen?;simp only[kB,eR];rw[yl b.1,h.c _ _ b.2 (yl b.1)];cases w.heap[a.block]<;>rfl
def Sim.l(h:Sim F π w wa)(b:r<w/\F.b r):wa.shape? (π.f r)=w.shape? r:=by unfold World.shape?;rw[yl b.1,h.c _ _ b.2 (yl b.1)];cases w.heap[r]<;>simp[Obj.pm]
def Ran.p(h:Sim F π w wa)(l:Shut F w)(k:r<w)(m:F.gs+5<=r){f p:Obj->Obj}(q:∀o,p (o.pm π)=(f o).pm π)(t:∀j,cG F w.heap.size j->∀o,o.pm j=o->(f o).pm j=f o):Ran F π π w wa {w with heap:=w.heap.modify r f} {wa with heap:=wa.heap.modify (π.f r) p}:=by
 refine⟨⟨λx o g c=>?_,h.g,ν,by simpa using h.e,h.os,h.tape⟩,⟨λj i x o g c=>?_⟩,ς,ς,λ_ _=>rfl,λx y v=>ν,λb s u=>?_,λb s=>?_,rfl,rfl,rfl,rfl,rfl,rfl,rfl⟩;simp only[LI]at c⊢;by_cases d:r=x;subst d;simp only[if_true]at c⊢;rw[yl k]at c;cases c;rw[h.c _ _ g (yl k)];simp[q];rw[if_neg d]at c;rw[if_neg λe=>d (π.Nd e)];exact h.c _ _ g c;simp only[Array.size_modify]at i;simp only[LI]at c;by_cases d:r=x;subst d;simp only[if_true]at c;rw[yl k]at c;cases c;exact t j i _ (l.b j i _ _ g (yl k));rw[if_neg d]at c;exact l.b j i _ _ g c;grind
 grind
end
variable {v:Θ}{es:Array Event}{o:Obj}
def fX(F:Fam)(π:Perm)(n:Nat)(e:Event):Prop:=
 match e.loc with
 |.cell a=>∃r,F.gs+5<=r/\r<n/\π.f r=a.block
 |.obj b=>(∃r,F.gs+5<=r/\r<n/\π.f r=b)/\e.sync=false
 |.mark m=>m=.noRoom
 |.output=>True
 |.goroutines=>False
def fX.b{F:Fam}{n d:Perm}{w p l g:Δ}(h:Ran F n d w p l g){e:Event}(f:fX F n w e):fX F d l e:=by
 let⟨k,s,q⟩:=e;cases k with
 |cell a=>let⟨r,i,c,e⟩:=f;exact⟨r,i,yg c h.grow,by rw[h.c r c,e]⟩
 |obj b=>let⟨⟨r,i,c,e⟩,j⟩:=f;exact⟨⟨r,i,yg c h.grow,by rw[h.c r c,e]⟩,j⟩
 |mark m=>exact f
 |output=>trivial
 |goroutines=>exact f
def xz{h:Halt}(b:h.pm kF=h)(f:h.pm G9=h):(∃v,h=.panic v)\/(∃u,h=.stuck u)\/∃u,h=.unsupported u/\∀g,u≠.initOrder g:=by
 cases h with
 |panic v=>simp
 |stuck u=>simp
 |unsupported u=>
  refine .inr (.inr ⟨u,rfl,λg e=>?_⟩);subst e;simp only[Halt.pm,Halt.unsupported.injEq,Unsupported.initOrder.injEq]at f;exact dP g f
 |exit c=>
  by_cases d:c=0
  simp[Halt.pm,kF,dF,d]at b;simp[Halt.pm,kF,dF,d]at b;omega
 |_=>simp[Halt.pm,kF,dF]at b
def ec{α:Type}(P:Program)(F:Fam)(H:Perm->α->α)(π:Perm)(w wa:Δ)(s:Sem α):Prop:=∀es esa,
 (∀a w' es',s.runT P w es=(.ok a w',es')->∃π' wa' d,(s.bN π (H π)).runT P wa esa=(.ok (H π' a) wa',esa++d)/\Ran F π π' w wa w' wa'/\(∀e∈d,fX F π' w'.heap.size e)/\∀σ,cG F w'.heap.size σ->H σ a=a)/\
 (∀h w' es',s.runT P w es=(.halt h w',es')->(∃v,h=.panic v)\/(∃u,h=.stuck u)\/∃u,h=.unsupported u/\∀g,u≠.initOrder g)
section
variable {α:Type}{P:Program}{F:Fam}{H:Perm->α->α}{π:Perm}{w wa:Δ}
def ec.b{πB:Perm}{dJ waB:Δ}{s dm:Sem α}(b:Array Event)(f:Array Event->Array Event)(n:∀m,s.runT P w m=dm.runT P dJ (f m))(A:∀c,(s.bN π (H π)).runT P wa c=(dm.bN πB (H πB)).runT P waB (c++b))(y:Ran F π πB w wa dJ waB)(z:∀e∈b,fX F πB dJ e)(h:ec P F H πB dJ waB dm):ec P F H π w wa s:=by
 intro m c;constructor;intro a k g e;rw[n]at e;obtain⟨l,j,d,t,p,u,q⟩:=(h _ _).1 a k g e;refine⟨l,j,_,by rw[A,t,Array.append_assoc],y.s p,λe i=>?_,q⟩;rcases Kx.1 i with i|i;exact(z e i).b p;exact u e i;intro x k g e;rw[n]at e;exact(h _ (c++b)).2 x k g e
def ec.c{s:Sem α}(h:Halt)(k:∀d,∃f b,s.runT P w d=(.halt h f,b))(m:(∃v,h=.panic v)\/(∃u,h=.stuck u)\/∃u,h=.unsupported u/\∀g,u≠.initOrder g):ec P F H π w wa s:=by intro d l;let⟨i,c,j⟩:=k d;constructor;intro a f b e;rw[j]at e;injection e with e1 e2;cases e1;grind
def Shut.f(e:Shut F w)(f:F.b a.block)(b:w.cell? a=some v)(c:cG F w σ):v.pm σ=v:=by
 unfold World.cell? at b;rcases d:w.heap[a.block]? with _|o;grind;have g:=e.b σ c _ _ f d;rw[d]at b;cases o<;>simp only at b<;>try cases b
 by_cases h:a.spot.isSome=true
 grind
 simp only[Obj.pm,Obj.cells.injEq,and_true]at g;grind
def Bh(h:v.pm σ=v):v.pm σ.MS=v:=by have:=zP σ v;grind
def xA{v:Obj}(h:v.pm σ=v):v.pm σ.MS=v:=by have:=uG σ v;grind
def cF{m:Mode}{k:Sem α}(d:(∀c,v≠.agg c)/\∀c,v≠.tuple c):(Sem.store m a v k).runT P w es=match w.cell? a with
 |some _=>if w.frozen? a then (.halt (.unsupported (.unsafePointer "a write to bytes that a string shares")) w,es) else k.runT P (w.setCell a v) (es.push ⟨.cell a,true,m==.atomic⟩)
 |none=>match w.farStore P a v (m==.atomic)with
   |.ok (w,b)=>k.runT P w (es++b.toArray.map (⟨.cell ·,true,m==.atomic⟩))
   |.error h=>(.halt h w,es):=by
 cases v<;>first|rfl|exact absurd rfl (d.1 _)|exact absurd rfl (d.2 _)
def gQ{k:Obj->Sem α}(b:w.heap[r]?=some o)(d:∀c e f,o≠.cells c e f):(Sem.getObj r k).runT P w es=(k o).runT P w (es.push ⟨.obj r,false,o.isChan⟩):=by simp only[Sem.runT,b]
def gR{b:Obj}{k:Sem α}(d:w.heap[r]?=some o)(g:∀c e f,o≠.cells c e f):(Sem.setObj r b k).runT P w es=k.runT P {w with heap:=w.heap.setIfInBounds r b} (es.push ⟨.obj r,true,b.isChan⟩):=by simp only[Sem.runT,d]
def o5(b:∀c e f,o≠.cells c e f):∀c e f,o.pm π≠.cells c e f:=by cases o<;>simp[Obj.pm];grind
def lP(c:Shut F w)(a:Addr)(d:F.b a.block)(b:String):w.noCell a b=.stuck b:=by
 unfold World.noCell;split
 .rename_i h;exact absurd h (c.d d)
 .rename_i h;exact absurd h (c.c d)
 rfl
def oA(hH:∀l j a,H l (H j a)=H (l.Mg j) a):∀(s:Sem α){l:Perm}{w t:Δ},Sim F l w t->Shut F w->(∀j,cG F w j->s.bN j (H j)=s)->ec P F H l w t s:=by
 intro s;induction s with
 |pure a=>
  intro l w t h z B p C;constructor;intro b w' b4 e;obtain⟨⟨rfl,rfl⟩,rfl⟩:=e;exact⟨l,t,#[],by simp[Sem.bN,Sem.runT],Ran.i h z,ς,λj d=>by have:=B j d;simpa[Sem.bN]using this⟩;intro b w' b4 e;simp only[Sem.runT,CN]at e;cases e.1
 |halt x=>
  intro l w t h z B;refine ec.c x (λp=>⟨w,p,rfl⟩) (xz ?_ ?_);have:=B _ (fG F _);simpa[Sem.bN]using this;have:=B _ (sD F _);simpa[Sem.bN]using this
 |program k D=>
  intro l w t h z B;refine ec.b #[] (λp=>p) (λp=>rfl) (λC=>by simp[Sem.bN,Sem.runT]) (Ran.i h z) ς (D P h z λj d=>?_);have:=B j d;simp only[Sem.bN,Sem.program.injEq]at this;exact congrFun this P
 |mark m k D=>
  intro l w t h z B;have hm:m=.noRoom:=by
   apply Classical.byContradiction;intro b3;have:=B _ (fG F _);simp only[Sem.bN,Sem.mark.injEq]at this;have h1:ee kF m=m:=by cases m<;>rfl
   have h2:=this.1;unfold Mark.pm at h2;rw[h1]at h2;exact uE b3 h2
  subst hm;refine ec.b (waB:=t) (dm:=k) #[⟨.mark .noRoom,false,true⟩] (λp=>p.push ⟨.mark .noRoom,false,true⟩) (λp=>rfl) (λC=>?_) (Ran.i h z) (λe R=>?_) (D h z λj d=>?_);simp only[Sem.bN,Sem.runT,<-mR];rfl;rw[Le]at R;subst R;rfl;have:=B j d;simp only[Sem.bN,Sem.mark.injEq]at this;exact this.2
 |choose q k D=>
  intro l w t h z B;have I:∀n j,cG F w j->(k n).bN j (H j)=k n:=λn j d=>by have:=B j d;simp only[Sem.bN,Sem.choose.injEq,true_and]at this;exact congrFun this n
  by_cases hq:q.forced=true
  exact ec.b (πB:=l) (dJ:=w) (waB:=t) (dm:=k 0) #[] (λp=>p) (λp=>by simp[Sem.runT,hq]) (λC=>by simp[Sem.bN,Sem.runT,hq]) (Ran.i h z) ς (D 0 h z (I 0));have e:=h.tape 0 q;simp only[GV]at e;have h':Sim F l {w with drawn:=w.drawn+1} {t with drawn:=t.drawn+1}:=⟨h.c,h.g,h.d,h.e,h.os,λi q=>by have:=h.tape (i+1) q;grind⟩;have a8:Shut F {w with drawn:=w.drawn+1}:=⟨z.b⟩;refine ec.b (πB:=l) (dJ:={w with drawn:=w.drawn+1}) (waB:={t with drawn:=t.drawn+1}) (dm:=k (q.cut (w.tape w.drawn q))) #[] (λp=>p) (λp=>by simp[Sem.runT,hq]) (λC=>by simp[Sem.bN,Sem.runT,hq,e]) ?_ ς (D _ h' a8 (I _));exact⟨h',a8,yb _,yb _,λ_ _=>rfl,λr h1 h2=>ν,λ_ _ _=>rfl,λ_ _=>rfl,rfl,rfl,rfl,rfl,rfl,rfl,rfl⟩
 |sys c k D=>
  intro l w t h z B;have:=B _ (fG F _);simp only[Sem.bN]at this;cases this
 |load m a k D=>
  intro l w t h z B;have ha:∀j,cG F w j->a.pm j=a/\∀v,(k (v.pm j.MS)).bN j (H j)=k v:=λj d=>by have:=B j d;simp only[Sem.bN,Sem.load.injEq,true_and]at this;exact⟨this.1,λv=>congrFun this.2 v⟩
  have K:a.block<w/\F.b a.block:=di h.d λj d=>congrArg Addr.block (ha j d).1;rcases W:w.cell? a with _|v
  .refine ec.c (.stuck "load: no such cell") (λp=>⟨w,p,?_⟩) ς;have Y:w.farLoad P a (m==.atomic)=.error (.stuck "load: no such cell"):=by
    unfold World.farLoad;split
    .rename_i G;exact absurd G (z.c K.2)
    rw[lP z _ K.2]
   simp only[Sem.runT,W,Y]
  refine ec.b (πB:=l) (dJ:=w) (waB:=t) (dm:=k v) #[⟨.cell (a.pm l),false,m==.atomic⟩] (λp=>p.push ⟨.cell a,false,m==.atomic⟩) (λp=>by simp only[Sem.runT,W]) (λC=>?_) (Ran.i h z) (λe R=>?_) (D v h z λj d=>?_);simp only[Sem.bN,Sem.runT,h.j K.2 W,zP];rfl;rw[Le]at R;subst R;exact⟨a.block,K.2,K.1,rfl⟩;have:=(ha j d).2 v;rwa [Bh (z.f K.2 W d)]at this
 |shape r k D=>
  intro l w t h z B;have E:r<w/\F.b r:=di h.d λj d=>by have:=B j d;simp only[Sem.bN,Sem.shape.injEq]at this;omega
  refine ec.b (πB:=l) (dJ:=w) (waB:=t) (dm:=k (w.shape? r)) #[] (λp=>p) (λp=>rfl) (λC=>by simp[Sem.bN,Sem.runT,h.l E]) (Ran.i h z) ς (D _ h z λj d=>?_);have:=B j d;simp only[Sem.bN,Sem.shape.injEq]at this;exact congrFun this.2 _
 |frozen a k D=>
  intro l w t h z B;have E:a.block<w/\F.b a.block:=di h.d λj d=>by have:=B j d;simp only[Sem.bN,Sem.frozen.injEq]at this;exact congrArg Addr.block this.1
  refine ec.b (πB:=l) (dJ:=w) (waB:=t) (dm:=k (w.frozen? a)) #[] (λp=>p) (λp=>rfl) (λC=>by simp[Sem.bN,Sem.runT,h.h E]) (Ran.i h z) ς (D _ h z λj d=>?_);have:=B j d;simp only[Sem.bN,Sem.frozen.injEq]at this;exact congrFun this.2 _
 |freeze a n k D=>
  intro l w t h z B;have E:a.block<w/\F.b a.block:=di h.d λj d=>by have:=B j d;simp only[Sem.bN,Sem.freeze.injEq]at this;exact congrArg Addr.block this.1
  have I:∀j,cG F w j->k.bN j (H j)=k:=λj d=>by have:=B j d;simp only[Sem.bN,Sem.freeze.injEq]at this;exact this.2.2
  by_cases hn:n=0
  exact ec.b (πB:=l) (dJ:=w) (waB:=t) (dm:=k) #[] (λp=>p) (λp=>by simp[Sem.runT,World.freeze,hn]) (λC=>by simp[Sem.bN,Sem.runT,World.freeze,hn]) (Ran.i h z) ς (D h z I);have N:Ran F l l w t (w.freeze a n) (t.freeze (a.pm l) n):=by unfold World.freeze;rw[if_neg hn,if_neg hn];exact Ran.p h z E.1 E.2 (λo=>by cases o<;>rfl) (λj d o ho=>by cases o<;>simp_all[Obj.pm])
  have a2:(w.freeze a n).heap.size=w:=by unfold World.freeze;rw[if_neg hn];simp
  exact ec.b (πB:=l) (dJ:=w.freeze a n) (waB:=t.freeze (a.pm l) n) (dm:=k) #[] (λp=>p) (λp=>rfl) (λC=>by simp[Sem.bN,Sem.runT]) N ς (D N.d N.m λj d=>I j (by rw[a2]at d;exact d))
 |getObj r k D=>
  intro l w t h z B;have I:∀j,cG F w j->j.f r=r/\∀o,(k (o.pm j.MS)).bN j (H j)=k o:=λj d=>by have:=B j d;simp only[Sem.bN,Sem.getObj.injEq]at this;exact⟨this.1,λo=>congrFun this.2 o⟩
  have G:r<w∧F.b r:=di h.d λj d=>(I j d).1;have E:=G.1;have Z:=yl E;have X:=h.c _ _ G.2 Z;generalize w.heap[r]=o at Z X;by_cases O:∃c e f,o=.cells c e f;obtain⟨c,e,f,rfl⟩:=O;exact ec.c (.stuck "getObj: a row of cells") (λp=>⟨w,p,by simp only [Sem.runT,Z]⟩) ς;have K:∀p,(Sem.getObj r k).runT P w p=(k o).runT P w (p.push ⟨.obj r,false,o.isChan⟩):=λp=>by exact gQ Z λc e f h=>ν
  have a3:∀p,((Sem.getObj r k).bN l (H l)).runT P t p=((k o).bN l (H l)).runT P t (p.push ⟨.obj (l.f r),false,(o.pm l).isChan⟩):=λp=>by simp only[Sem.bN];rw[gQ X (o5 λc e f h=>ν),uG]
  refine ec.b (πB:=l) (dJ:=w) (waB:=t) (dm:=k o) #[⟨.obj (l.f r),false,(o.pm l).isChan⟩] (λp=>p.push ⟨.obj r,false,o.isChan⟩) K (λC=>by rw[a3];rfl) (Ran.i h z) (λe R=>?_) (D o h z λj d=>?_)
  .rw[Le]at R;subst R;refine⟨⟨r,G.2,E,rfl⟩,?_⟩;cases o<;>first|rfl|exact(z.e G.2 Z)
  have:=(I j d).2 o;rwa [xA (z.b j d _ _ G.2 Z)]at this
 |setObj r L k D=>
  intro l w t h z B;have I:∀j,cG F w j->j.f r=r/\L.pm j=L/\k.bN j (H j)=k:=λj d=>by have:=B j d;simp only[Sem.bN,Sem.setObj.injEq]at this;exact this
  have G:r<w∧F.b r:=di h.d λj d=>(I j d).1;have E:=G.1;have Z:=yl E;have X:=h.c _ _ G.2 Z;generalize w.heap[r]=o at Z X;by_cases O:∃c e f,o=.cells c e f;obtain⟨c,e,f,rfl⟩:=O;exact ec.c (.stuck "setObj: a row of cells") (λp=>⟨w,p,by simp only [Sem.runT,Z]⟩) ς;have K:∀p,(Sem.setObj r L k).runT P w p=k.runT P {w with heap:=w.heap.setIfInBounds r L} (p.push ⟨.obj r,true,L.isChan⟩):=λp=>by exact gR Z λc e f h=>ν
  have a3:∀p,((Sem.setObj r L k).bN l (H l)).runT P t p=(k.bN l (H l)).runT P {t with heap:=t.heap.setIfInBounds (l.f r) (L.pm l)} (p.push ⟨.obj (l.f r),true,(L.pm l).isChan⟩):=λp=>by simp only[Sem.bN];rw[gR X (o5 λc e f h=>ν)]
  have a1:∀(hp:Array Obj)(x:Nat)(y:Obj),hp.setIfInBounds x y=hp.modify x λ_=>y:=λhp x y=>by grind
  have N:Ran F l l w t {w with heap:=w.heap.setIfInBounds r L} {t with heap:=t.heap.setIfInBounds (l.f r) (L.pm l)}:=by rw[a1,a1];exact Ran.p h z E (G.2) (λ_=>rfl) λj d _ _=>(I j d).2.1
  have b5:(L.pm l).isChan=false:=by
   have:L.isChan=false:=by
    cases L with
    |chan b9 b8 cl st rc tm=>
     have:=(I _ (fG F _)).2.1;simp only[Obj.pm,Obj.chan.injEq]at this;exact absurd this.2.2.1 (by simp[kF])
    |_=>rfl
   cases L<;>first|rfl|exact this
  refine ec.b (πB:=l) (dm:=k) #[⟨.obj (l.f r),true,(L.pm l).isChan⟩] (λp=>p.push ⟨.obj r,true,L.isChan⟩) K (λC=>by rw[a3];rfl) N (λe R=>?_) (D N.d N.m λj d=>(I j (by simpa using d)).2.2);rw[Le]at R;subst R;exact⟨⟨r,G.2,ν,rfl⟩,b5⟩
 |store m a v k D=>
  intro l w t h z B;have I:∀j,cG F w j->a.pm j=a/\v.pm j=v/\k.bN j (H j)=k:=λj d=>by have:=B j d;simp only[Sem.bN,Sem.store.injEq,true_and]at this;exact this
  have K:a.block<w/\F.b a.block:=di h.d λj d=>congrArg Addr.block (I j d).1;by_cases G:(∀c,v≠.agg c)/\∀c,v≠.tuple c
  .have b6:(∀c,v.pm l≠.agg c)/\∀c,v.pm l≠.tuple c:=by cases v<;>simp<;>first|grind|grind
   rcases W:w.cell? a with _|u
   .refine ec.c (.stuck "store: no such cell") (λp=>⟨w,p,?_⟩) ς;have Y:w.farStore P a v (m==.atomic)=.error (.stuck "store: no such cell"):=by
     unfold World.farStore;split
     .rename_i G;exact absurd G (z.c K.2)
     rw[lP z _ K.2]
    rw[cF G];simp only[W,Y]
   by_cases hz:w.frozen? a=true
   exact ec.c (.unsupported (.unsafePointer "a write to bytes that a string shares")) (λp=>⟨w,p,by rw [cF G];simp only [W,hz,if_true]⟩) (.inr (.inr ⟨_,rfl,λg e=>by cases e⟩));have b2:¬t.frozen? (a.pm l)=true:=by rw[h.h K];exact hz
   have N:Ran F l l w t (w.setCell a v) (t.setCell (a.pm l) (v.pm l)):=by
    refine Ran.p h z K.1 (K.2) (λo=>?_) λj d o ho=>?_
    .cases o<;>first|rfl|skip
     simp only[Obj.pm,iR,eR];by_cases b7:a.spot.isSome=true;grind;simp_all
    cases o<;>first|exact ho|skip
    rename_i c e fz
    simp only[Obj.pm,Obj.cells.injEq,and_true]at ho⊢;grind
   have a2:(w.setCell a v).heap.size=w:=by unfold World.setCell;simp
   refine ec.b (πB:=l) (dm:=k) #[⟨.cell (a.pm l),true,m==.atomic⟩] (λp=>p.push ⟨.cell a,true,m==.atomic⟩) (λp=>?_) (λC=>?_) N (λe R=>?_) (D N.d N.m λj d=>(I j (by rw[a2]at d;exact d)).2.2);rw[cF G];simp only[W,hz];rfl;simp only[Sem.bN];rw[cF b6];simp only[h.j K.2 W,b2];rfl;rw[Le]at R;subst R;exact⟨a.block,K.2,ω,rfl⟩
  refine ec.c (.stuck "store: not the value of one cell") (λp=>⟨w,p,?_⟩) ς;cases v<;>first|rfl|exact absurd (And.intro (λc e=>(by cases e)) (λc e=>(by cases e))) G
 |new o k D=>
  intro l w t h z B;have I:∀j,cG F w j->o.pm j=o/\∀r,(k (j.i r)).bN j (H j)=k r:=λj d=>by have:=B j d;simp only[Sem.bN,Sem.new.injEq]at this;exact⟨this.1,λr=>congrFun this.2 r⟩
  let A:=l.Nn (l.f w) t
  have b0:A.f w=t:=by show (if l.f w=l.f w then t.heap.size else _)=_;rw[if_pos rfl]
  have S:∀r,r<w.heap.size->A.f r=l.f r:=λr E=>by
   have h1:l.f r≠l.f w.heap.size:=λe=>by simp_all
   have h2:l.f r≠t.heap.size:=by have:=h.k E;omega
   show (if l.f r=l.f w.heap.size then t.heap.size else if l.f r=t.heap.size then _ else l.f r)=l.f r;grind
  have a9:=h.d;have b1:=h.e;have T:∀r,r<F.gs+5->A.f r=r:=λr E=>by rw[S r ω];exact h.g r E
  have U:∀r,A.f r<F.gs↔r<F.gs:=λr=>⟨λE=>by have:=A.Nd (T (A.f r) ω);omega,λE=>ν⟩;have d:cG F w.heap.size (l.MS.Mg A):=⟨λr _ E=>by show l.i (A.f r)=r;rw[S r E,l.a],λf _=>l.d f,λr=>by show l.i (A.f r)<F.gs↔r<F.gs;rw[<-U r,<-h.b (l.i (A.f r)),l.c]⟩
  have a6:l.Mg (l.MS.Mg A)=A:=nw l A;have a7:∀x:Obj,x.pm (l.MS.Mg A)=x->x.pm A=x.pm l:=λx V=>by rw[<-a6,<-obj_comp,V]
  have N:Ran F l A w t {w with heap:=w.heap.push o} {t with heap:=t.heap.push (o.pm l)}:=by
   refine⟨⟨λx y a0 V=>?_,T,ν,ν,h.os,h.tape⟩,⟨λj Q x y a0 V=>?_⟩,ς,ς,S,λx h1 h2=>?_,λb hb _=>?_,λb hb=>?_,rfl,rfl,rfl,rfl,rfl,rfl,rfl⟩
   .simp only[Array.getElem?_push]at V⊢;by_cases a4:x=w.heap.size;grind;rw[if_neg a4]at V;have a5:x<w:=(yk.1 V).1;rw[S x a5,if_neg (by have:=h.k a5;omega),h.c _ _ a0 V,a7 _ (z.b _ d _ _ a0 V)]
   .have M:cG F w.heap.size j:=Q.b ς;simp only[Array.getElem?_push]at V;by_cases a4:x=w.heap.size;grind;rw[if_neg a4]at V;exact z.b j M _ _ a0 V
   grind
   grind
   grind
  refine ec.b (πB:=A) (dm:=k w.heap.size) #[] (λp=>p) (λp=>rfl) (λC=>?_) N ς (D _ N.d N.m λj Q=>?_)
  .have e1:=(I _ d).2 (l.i t.heap.size);have e2:(l.MS.Mg A).i (l.i t.heap.size)=w.heap.size:=by show A.i (l.f (l.i t.heap.size))=w.heap.size;rw[l.c,<-b0,A.a]
   rw[e2]at e1;simp only[Sem.bN,Sem.runT,Hr];rw[<-e1,Db hH,a6]
  have M:cG F w.heap.size j:=Q.b ς;have e1:=(I j M).2 w.heap.size;have e2:j.i w.heap.size=w.heap.size:=by have:=Q.1 w.heap.size a9 ς;have h3:=j.a w.heap.size;rw[this]at h3;exact h3
  rwa [e2]at e1
end
