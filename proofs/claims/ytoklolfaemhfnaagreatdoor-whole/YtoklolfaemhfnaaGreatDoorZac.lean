import Derived.Test.YtoklolfaemhfnaaGreatDoorZab
set_option maxRecDepth 100000
set_option maxHeartbeats 8000000
namespace Go.Pm
section
open Go
def okBuiltin(b:Builtin)(_:Nat):Bool:=
 match b with
 |.append | .clear | .copy | .delete | .len | .max | .min | .unsafeString=>true
 |_=>false
mutual
def bare:Value->Bool
 |.bool _ | .int _ _ | .float _ _ | .complex _ _ _ | .string _ | .nilFunc | .nilIface=>true
 |.pointer a | .slice a _ _=>a.isNone
 |.map r | .chan r=>r.isNone
 |.func _ _ _=>false
 |.iface _ v=>bare v
 |.agg cs | .tuple cs=>bareA cs
def bareA:Array Value->Bool
 |⟨l⟩=>bareL l
def bareL:List Value->Bool
 |[]=>true
 |v::l=>bare v && bareL l
end
mutual
theorem qek(π:Perm):∀v:Value,bare v=true->v.pm π=v
 |.bool _,_ | .int _ _,_ | .float _ _,_ | .complex _ _ _,_ | .string _,_ | .nilFunc,_ | .nilIface,_=>by simp
 |.pointer a,h=>by cases a <;> simp_all[bare]
 |.slice a _ _,h=>by cases a <;> simp_all[bare]
 |.map a,h=>by cases a <;> simp_all[bare]
 |.chan a,h=>by cases a <;> simp_all[bare]
 |.func _ _ _,h=>by simp[bare] at h
 |.iface t v,h=>by simp only[bare] at h;simp[qek π v h]
 |.agg cs,h=>by simp only[bare] at h;have:=qkj π cs h;rw[qbk] at this;simp[this]
 |.tuple cs,h=>by simp only[bare] at h;have:=qkj π cs h;rw[qbk] at this;simp[this]
theorem qkj(π:Perm):∀a:Array Value,bareA a=true->pmA π a=a
 |⟨l⟩,h=>by simp only[bareA] at h;simp only[pmA,qkk π l h]
theorem qkk(π:Perm):∀l:List Value,bareL l=true->pmL π l=l
 |[],_=>by simp[pmL]
 |v::l,h=>by simp only[bareL,yB] at h;simp[pmL,qek π v h.1,qkk π l h.2]
end
def okX(_:Program)(F:Nat->Bool):Operand->Bool
 |.tmp _=>true
 |.const v=>bare v
 |.global _=>false
 |.func f=>F f
def okOp(P:Program)(F:Nat->Bool)(o:Op):Bool:=
 o.operands.all (okX P F) &&
 match o with
 |.move _ | .assign _ | .pick .. | .alloc _ | .box .. | .build .. | .buildSlice .. | .load .. | .store .. | .nilCheck _ | .binOp .. | .unOp .. | .makeInterface .. | .makeMap ..
 |.makeSlice .. | .slice .. | .fieldAddr ..  | .indexAddr .. | .index .. | .lookup .. | .mapUpdate .. | .range .. | .next .. | .entry _ | .extract .. | .panic _=>true
 |.convert s d _=>!(P.underlying s matches some .unsafePointer) && !(P.underlying d matches some .unsafePointer)
 |.makeFunc fn ..=>match fn with | .func f=>F f|_=>false
 |.call c=>match c.callee with | .builtin b=>okBuiltin b c.args.size | .value _=>true | .invoke ..=>false
 |_=>false
section
variable {P:Program}{π:Perm}(S:Still P π)
omit S in
theorem Eqv.loadBytes:∀(n:Nat) {a:Addr}{acc:ByteArray},Eqv P π (fun x=>x) (Go.loadBytes (a.pm π) acc n) (Go.loadBytes a acc n)
 |0,_,_=>Eqv.p rfl
 | n + 1, a, acc => by
   unfold Go.loadBytes;refine Eqv.b (hα:=Value.pm π) Eqv.load fun v=>?_;cases v with
   | int k b =>
     cases k <;> first|(simp only[qbd];rw[<-qa4];exact Eqv.loadBytes n)|exact Eqv.s _
   |_=>exact Eqv.s _
include S in
theorem Eqv.unsafeString{ats:Array TypeId}{t:TypeId}{args:Array Value}:Eqv P π (Value.pm π) (Go.Builtin.unsafeString_ ats t (args.map (Value.pm π))) (Go.Builtin.unsafeString_ ats t args):=by
 have body:∀(p:Option Addr) (y:Value),Eqv P π (Value.pm π) (Go.Builtin.unsafeString_ ats t #[.pointer (p.map (Addr.pm π)),y.pm π]) (Go.Builtin.unsafeString_ ats t #[.pointer p,y]):=fun p y=>by
  refine Eqv.b Eqv.asInt fun n=>?_;cases ats[0]? with
  |none=>exact Eqv.s _
  | some pt =>
    refine Eqv.guard yK (Eqv.r S _) (Eqv.guard yK (Eqv.u _) ?_);cases p with
    |none=>exact Eqv.i yK (Eqv.p rfl) (Eqv.r S _)
    | some a =>
      refine Eqv.i yK (Eqv.p rfl) ?_;refine Eqv.b Eqv.elemOf fun e=>Eqv.b Eqv.variablesAt fun b=>?_;cases b with
      |false=>exact Eqv.u _
      |true=>exact Eqv.b (Eqv.loadBytes _) fun s=>Eqv.b Eqv.freeze fun _=>Eqv.p rfl
 obtain⟨l⟩:=args;have e:(Array.mk l).map (Value.pm π)=Array.mk (l.map (Value.pm π)):=by simp
 rw[e];clear e;match l with
 |[]=>exact(Eqv.s _:Eqv P π _ (Go.stuck _) (Go.stuck _))
 |[x]=>exact(Eqv.s _:Eqv P π _ (Go.stuck _) (Go.stuck _))
 |x::y::z::r=>exact(Eqv.s _:Eqv P π _ (Go.stuck _) (Go.stuck _))
 | [x, y] =>
   cases x with
   |pointer p=>have:=body p y;simpa only[yN,yaK,pm_pointer] using this
   |_=>exact(Eqv.s _:Eqv P π _ (Go.stuck _) (Go.stuck _))
end
section
variable {P:Program}{π:Perm}(S:Still P π){F:Nat->Bool}{α β:Type}
theorem Eqv.val{s s':Sem Value}(h:Eqv P π (Value.pm π) s' s):Eqv P π (Next.pm π) (do Pure.pure (.value (<-s'))) (do Pure.pure (.value (<-s))):=Eqv.b h fun _=>Eqv.p rfl
theorem Eqv.unit{s s':Sem Unit}(h:Eqv P π (fun x=>x) s' s):Eqv P π (Next.pm π) (do s';Pure.pure .skip) (do s;Pure.pure .skip):=Eqv.b h fun _=>Eqv.p rfl
include S in
theorem Eqv.execOp{ρ ρ':Operand->Value}(hρ':∀x,okX P F x=true->ρ' x=(ρ x).pm π)(hF:∀f,F f=true->π.g f=f)(hpl:∀x,okX P F x=true->Plain P π (ρ x)){o:Oper}(ok':okOp P F o.op=true)(hnp:∀x,o.op≠.panic x) :
 Eqv P π (Next.pm π) (Go.execOp ρ' o) (Go.execOp ρ o):=by
 unfold okOp at ok';rw[yB] at ok';obtain⟨hX,ok⟩:=ok';have hmem:∀x∈o.op.operands,okX P F x=true:=fun x hx=>by
  have:=yad.1 hX x hx;exact this
 unfold Go.execOp;have hopt:∀x:Option Operand,(∀y∈x,okX P F y=true)->x.map ρ'=(x.map ρ).map (Value.pm π):=fun x hx=>by
  cases x with
  |none=>rfl
  |some y=>simp[hρ' y (hx y rfl)]
 have hparts:∀ps:Array (Nat × Operand),(∀y∈ps,okX P F y.2=true)->(ps.map fun x=>(x.1,ρ' x.2))=(ps.map fun x=>(x.1,ρ x.2)).map fun x=>(x.1,x.2.pm π):=fun ps hx=>by
  rw[Array.map_map];exact Array.map_congr_left fun x hm=>by simp[hρ' x.2 (hx x hm)]
 have harr:∀ps:Array Operand,(∀y∈ps,okX P F y=true)->ps.map ρ'=(ps.map ρ).map (Value.pm π):=fun ps hx=>by
  rw[Array.map_map];exact Array.map_congr_left fun x hm=>hρ' x (hx x hm)
 cases ho:o.op with
 |move x=>rw[ho] at hmem;dsimp only;rw[hρ' x (hmem x (by simp[Op.operands]))];exact Eqv.p rfl
 |assign x=>rw[ho] at hmem;dsimp only;rw[hρ' x (hmem x (by simp[Op.operands]))];exact Eqv.p rfl
 | pick c a b =>
   rw[ho] at hmem;dsimp only;rw[hρ' c (hmem c (by simp[Op.operands])),hρ' a (hmem a (by simp[Op.operands])),hρ' b (hmem b (by simp[Op.operands]))];exact Eqv.b Eqv.asBool fun b=>Eqv.p (by cases b <;> rfl)
 |alloc e=>exact Eqv.val (by have:=Eqv.alloc S (t:=e) (b:=true) (old:=.tuple #[]);simpa using this)
 |box e x=>rw[ho] at hmem;dsimp only;rw[hρ' x (hmem x (by simp[Op.operands]))];exact Eqv.val Eqv.box
 | build t ps =>
   rw[ho] at hmem;dsimp only;rw[hparts ps fun y hy=>hmem y.2 (by simp only[Op.operands,yag,yW];exact⟨y,by simpa using hy,rfl⟩)];exact Eqv.val (Eqv.build S)
 | buildSlice t n ps =>
   rw[ho] at hmem;dsimp only;rw[hparts ps fun y hy=>hmem y.2 (by simp only[Op.operands,yag,yW];exact⟨y,by simpa using hy,rfl⟩)];exact Eqv.val (Eqv.buildSlice S)
 |load t a=>rw[ho] at hmem;dsimp only;rw[hρ' a (hmem a (by simp[Op.operands]))];exact Eqv.val Eqv.loadAt
 |store t a x=>rw[ho] at hmem;dsimp only;rw[hρ' a (hmem a (by simp[Op.operands])),hρ' x (hmem x (by simp[Op.operands]))];exact Eqv.unit Eqv.storeAt
 | nilCheck x =>
   rw[ho] at hmem;dsimp only;have hx:=hmem x (by simp[Op.operands]);rw[hρ' x hx];have hp:=hpl x hx;generalize ρ x=v at hp;cases v with
   |pointer a=>cases a <;> first|exact Eqv.r S _|exact Eqv.p rfl
   |nilIface=>exact Eqv.r S _
   |nilFunc=>exact Eqv.r S _
   | func fn first captured =>
     obtain⟨f,fd,rfl,_⟩:=hp _ _ _ rfl;exact Eqv.p rfl
   |_=>exact Eqv.p rfl
 |binOp op t x y yt=>rw[ho] at hmem;dsimp only;rw[hρ' x (hmem x (by simp[Op.operands])),hρ' y (hmem y (by simp[Op.operands]))];exact Eqv.val (Eqv.b Eqv.eqGuard fun _=>Eqv.binOp S)
 |unOp op t x=>rw[ho] at hmem;dsimp only;rw[hρ' x (hmem x (by simp[Op.operands]))];exact Eqv.val Eqv.unary
 | convert s d x =>
   rw[ho] at hmem ok;dsimp only;rw[hρ' x (hmem x (by simp[Op.operands]))];refine Eqv.val (Eqv.convert ⟨fun e=>?_,fun e=>?_⟩)
   ·simp[e] at ok
   ·simp[e] at ok
 |makeInterface t x=>rw[ho] at hmem;dsimp only;rw[hρ' x (hmem x (by simp[Op.operands]))];exact Eqv.val Eqv.makeInterface
 | makeFunc fn first captured =>
   rw[ho] at hmem ok;dsimp only;rw[harr first fun y hy=>hmem y (by simp[Op.operands,hy]),harr captured fun y hy=>hmem y (by simp[Op.operands,hy])];have hf:fn.pm π=fn:=by cases fn <;> first|(simp only at ok;simp[Fn.pm,hF _ ok])|cases ok
   exact Eqv.val (Eqv.p (by simp[hf]))
 |makeMap t r=>rw[ho] at hmem;dsimp only;rw[hopt r fun y hy=>hmem y (by cases hy;simp[Op.operands])];exact Eqv.val Eqv.makeMap
 |makeSlice t l c=>rw[ho] at hmem;dsimp only;rw[hρ' l (hmem l (by simp[Op.operands])),hρ' c (hmem c (by simp[Op.operands]))];exact Eqv.val (Eqv.makeSlice S)
 | slice t x lo hi mx =>
   rw[ho] at hmem;dsimp only;rw[hρ' x (hmem x (by simp[Op.operands])),hopt lo fun y hy=>hmem y (by cases hy;simp[Op.operands]),hopt hi fun y hy=>hmem y (by cases hy;simp[Op.operands]),hopt mx fun y hy=>hmem y (by cases hy;simp[Op.operands])];exact Eqv.val (Eqv.sliceAt S)
 |fieldAddr s x f=>rw[ho] at hmem;dsimp only;rw[hρ' x (hmem x (by simp[Op.operands]))];exact Eqv.val Eqv.fieldAt
 |indexAddr t x ix=>rw[ho] at hmem;dsimp only;rw[hρ' x (hmem x (by simp[Op.operands])),hρ' ix (hmem ix (by simp[Op.operands]))];exact Eqv.val (Eqv.indexAt S)
 |index t x ix=>rw[ho] at hmem;dsimp only;rw[hρ' x (hmem x (by simp[Op.operands])),hρ' ix (hmem ix (by simp[Op.operands]))];exact Eqv.val (Eqv.index S)
 |lookup t x ix b=>rw[ho] at hmem;dsimp only;rw[hρ' x (hmem x (by simp[Op.operands])),hρ' ix (hmem ix (by simp[Op.operands]))];exact Eqv.val (Eqv.lookup S)
 |mapUpdate t m k x=>rw[ho] at hmem;dsimp only;rw[hρ' m (hmem m (by simp[Op.operands])),hρ' k (hmem k (by simp[Op.operands])),hρ' x (hmem x (by simp[Op.operands]))];exact Eqv.unit (Eqv.mapUpdate S)
 |range t x=>rw[ho] at hmem;dsimp only;rw[hρ' x (hmem x (by simp[Op.operands]))];exact Eqv.val Eqv.range
 |next x b=>rw[ho] at hmem;dsimp only;rw[hρ' x (hmem x (by simp[Op.operands]))];exact Eqv.val Eqv.next
 |entry x=>rw[ho] at hmem;dsimp only;rw[hρ' x (hmem x (by simp[Op.operands]))];exact Eqv.val Eqv.entry
 |extract x i=>rw[ho] at hmem;dsimp only;rw[hρ' x (hmem x (by simp[Op.operands]))];exact Eqv.val Eqv.extract
 |panic x=>exact absurd ho (hnp x)
 | call c =>
   rw[ho] at hmem ok;dsimp only at ok ⊢;unfold Go.resolve;rw[harr c.args fun y hy=>hmem y (by simp[Op.operands,Call.operands,hy])];cases hc:c.callee with
   | value f =>
     have hf:=hmem f (by simp[Op.operands,Call.operands,hc]);dsimp only;rw[hρ' f hf];have hp:=hpl f hf;generalize ρ f=v at hp;cases v with
     | func fn first captured =>
       obtain⟨id,fd,rfl,hg,hfd,hbd⟩:=hp _ _ _ rfl;rw[qi1];have:=Eqv.callFunc (P:=P) (π:=π) (f:=id) (args:=first++c.args.map ρ++captured) hg hfd hbd;simp only[ya2] at this;simp only[Fn.pm,hg];exact this
     |nilFunc=>exact(show Eqv P π (Next.pm π) (Go.runtimePanic .nilDeref:Sem Next) (Go.runtimePanic .nilDeref:Sem Next) from Eqv.r S _)
     |_=>exact Eqv.s _
   |invoke r n=>rw[hc] at ok;cases ok
   | builtin b =>
     rw[hc] at ok;dsimp only at ok ⊢;cases b with
     |append=>exact Eqv.val (Eqv.append S)
     |clear=>exact Eqv.val (Eqv.clear S)
     |copy=>exact Eqv.val Eqv.copy
     |delete=>exact Eqv.val (Eqv.delete S)
     |len=>exact Eqv.val Eqv.len
     |max=>exact Eqv.val Eqv.max
     |min=>exact Eqv.val Eqv.min
     |unsafeString=>exact Eqv.val (Eqv.unsafeString S)
     |_=>cases ok
 |_=>rw[ho] at ok;cases ok
end
theorem qgp(π σ:Perm)(d:Deferred):(d.pm σ).pm π=d.pm (π.comp σ):=by
 obtain⟨t,a⟩:=d;cases t <;> simp[Deferred.pm,Target.pm,qf4,Function.comp_def,pm_comp]
theorem ql9(π σ:Perm)(n:Next):(n.pm σ).pm π=n.pm (π.comp σ):=by
 cases n <;> simp[Next.pm,pm_comp,qgp,Function.comp_def] <;> rfl
theorem qma(π σ:Perm)(h:Halt):(h.pm σ).pm π=h.pm (π.comp σ):=by
 cases h with
 |panic v=>simp[Halt.pm,pm_comp]
 |unsupported u=>cases u <;> rfl
 |stuck s=>rfl
 | exit c =>
   by_cases hc:c=0
   ·subst hc;cases hs:σ.b <;> cases hp:π.b <;> simp[Halt.pm,haltFlip,Perm.comp,hs,hp]
   ·cases hs:σ.b <;> cases hp:π.b <;> simp[Halt.pm,haltFlip,Perm.comp,hs,hp,hc]
 |_=>cases hs:σ.b <;> cases hp:π.b <;> simp[Halt.pm,haltFlip,Perm.comp,hs,hp]
theorem qgq(π:Perm)(m:Mark):qru π (qrq m)=qrq (qru π m):=by
 cases m <;> rfl
theorem qgr(π σ:Perm)(m:Mark):qru π (qru σ m)=qru (π.comp σ) m:=by
 cases m <;> simp[qru,qw]
theorem qmb(π σ:Perm)(m:Mark):(m.pm σ).pm π=m.pm (π.comp σ):=by
 have hb:(π.comp σ).b=(π.b != σ.b):=rfl;unfold Mark.pm;rw[hb,<-qgr];cases hs:σ.b <;> cases hp:π.b <;> simp[qgq,qgm]
theorem qkl{π σ:Perm}(h1:∀x,π.f x=σ.f x)(h2:∀x,π.g x=σ.g x)(h3:∀x,π.h x=σ.h x)(h4:π.b=σ.b):π=σ:=by
 have hi:∀x,π.i x=σ.i x:=fun x=>by rw[<-σ.if_ (π.i x),<-h1,π.fi]
 have hj:∀x,π.j x=σ.j x:=fun x=>by rw[<-σ.jg (π.j x),<-h2,π.gj]
 have hk:∀x,π.k x=σ.k x:=fun x=>by rw[<-σ.kh (π.k x),<-h3,π.hk]
 cases π;cases σ;simp only at h1 h2 h3 h4 hi hj hk;obtain rfl:=funext h1;obtain rfl:=funext h2;obtain rfl:=funext h3;obtain rfl:=funext hi;obtain rfl:=funext hj;obtain rfl:=funext hk;subst h4;rfl
theorem qkm(π σ:Perm):(π.comp σ).inv=σ.inv.comp π.inv:=
 qkl (fun _=>rfl) (fun _=>rfl) (fun _=>rfl) (by simp only[Perm.comp,Perm.inv];cases π.b <;> cases σ.b <;> rfl)
theorem qel(π π':Perm):π.comp (π.inv.comp π')=π':=
 qkl (fun x=>π.fi _) (fun x=>π.gj _) (fun x=>π.hk _) (by simp only[Perm.comp,Perm.inv];cases π.b <;> cases π'.b <;> rfl)
theorem qod{α:Type}{H:Perm->α->α}(hH:∀π σ a,H π (H σ a)=H (π.comp σ) a)(π σ:Perm)(s:Sem α) :
 (s.act σ (H σ)).act π (H π)=s.act (π.comp σ) (H (π.comp σ)):=by
 induction s with
 |pure a=>simp[Sem.act,hH]
 |halt h=>simp[Sem.act,qma]
 |store m a v k ih=>simp only[Sem.act,ih,qw,pm_comp]
 |freeze a n k ih=>simp only[Sem.act,ih,qw]
 |setObj r o k ih=>simp only[Sem.act,ih,obj_comp];rfl
 |mark m k ih=>simp only[Sem.act,ih,qmb]
 |load m a k ih=>simp only[Sem.act,qw];congr 1;funext v;rw[ih,pm_comp,qkm]
 |getObj r k ih=>simp only[Sem.act];congr 1;funext o;rw[ih,obj_comp,qkm]
 |new o k ih=>simp only[Sem.act,obj_comp];congr 1;funext r;rw[ih];rfl
 |frozen a k ih=>simp only[Sem.act,qw];congr 1;funext r;rw[ih]
 |shape a k ih=>simp only[Sem.act];congr 1;funext r;rw[ih]
 |sys c k ih=>rfl
 |_=>simp only[Sem.act];congr 1;funext r;rename_i ih;rw[ih]
structure Fam where
 has:Nat->Bool
 leaf:Nat->Bool
 gs:Nat
 two:2<=gs
instance:CoeFun Fam fun _=>Nat->Bool:=⟨Fam.has⟩
instance:Coe Fam (Nat->Bool):=⟨Fam.has⟩
def Fam.live(F:Fam)(r:Nat):Prop:=F.gs+5<=r
def Fixes(F:Fam)(n:Nat)(σ:Perm):Prop:=(∀r,F.live r->r<n->σ.f r=r)/\(∀f,F f=true->σ.g f=f)/\∀r,σ.f r<F.gs↔r<F.gs
theorem Fixes.mono{F:Fam}{n m:Nat}{σ:Perm}(h:Fixes F m σ)(hn:n<=m):Fixes F n σ:=⟨fun r hl hr=>h.1 r hl (by omega),h.2⟩
def permB:Perm:={ Perm.id with b:=true }
def permH:Perm:={ Perm.id with
 h:=fun x=>x ^^^ 1
 k:=fun x=>x ^^^ 1
 hk:=fun n=>by rw[Nat.xor_assoc,Nat.xor_self,Nat.xor_zero]
 kh:=fun n=>by rw[Nat.xor_assoc,Nat.xor_self,Nat.xor_zero] }
theorem qbu(F:Fam)(n:Nat):Fixes F n permB:=⟨fun _ _ _=>rfl,fun _ _=>rfl,fun _=>yK⟩
theorem qi4(F:Fam)(n:Nat):Fixes F n permH:=⟨fun _ _ _=>rfl,fun _ _=>rfl,fun _=>yK⟩
theorem qi5(r x y:Nat):(Perm.id.swap x y).f r=if r=x then y else if r=y then x else r:=rfl
theorem qan{F:Fam}{n r:Nat}(hn:F.gs+5<=n)(h:∀σ,Fixes F n σ->σ.f r=r):r<n/\F.live r:=by
 have two:=F.two;have key:∀y,y≠r->(∀x,F.live x->x<n->x≠r/\x≠y)->(r<F.gs↔y<F.gs)->False:=by
  intro y hy hl hb;have hf:Fixes F n (Perm.id.swap r y):=⟨fun x hx hxn=>by
   rw[qi5,if_neg (hl x hx hxn).1,if_neg (hl x hx hxn).2],fun _ _=>rfl,fun x=>by
   rw[qi5];split
   ·rename_i e;rw[e];exact hb.symm
   ·split
    ·rename_i e;rw[e];exact hb
    ·exact yK⟩
  have:=h _ hf;rw[qi5,if_pos rfl] at this;exact hy this
 by_cases h1:r<n
 ·by_cases h2:F.live r
  ·exact⟨h1,h2⟩
  ·exfalso
   unfold Fam.live at h2;by_cases h3:r<F.gs
   ·refine key (if r=0 then 1 else 0) (by split <;> omega) (fun x hx _=>by unfold Fam.live at hx;split <;> omega) (by split <;> omega)
   ·refine key (if r=F.gs then F.gs+1 else F.gs) (by split <;> omega) (fun x hx _=>by unfold Fam.live at hx;split <;> omega) (by split <;> omega)
 ·exact(key (r+1) (by omega) (fun x _ hxn=>by omega) (by omega)).elim
structure Sim (F:Fam) (π:Perm) (w wa:World):Prop where
 obj:∀(r:Nat) (o:Obj),F.live r->w.heap[r]?=some o->wa.heap[π.f r]?=some (o.pm π)
 ids:∀r,r<F.gs+5->π.f r=r
 low:F.gs+5<=w.heap.size
 lowa:F.gs+5<=wa.heap.size
 os:wa.os=w.os
 tape:∀i q,w.tape (w.drawn+i) q=wa.tape (wa.drawn+i) q
structure Shut (F:Fam) (w:World):Prop where
 obj:∀σ,Fixes F w.heap.size σ->∀(r:Nat) (o:Obj),F.live r->w.heap[r]?=some o->o.pm σ=o
section
variable {F:Fam}{w:World}
theorem Shut.noView(h:Shut F w){r:Nat}{a:Addr}{t:TypeId}(hl:F.live r):w.heap[r]?≠some (.view a t):=fun e=>by
 have:=h.obj _ (qi4 F _) r _ hl e;simp only[Obj.pm,Obj.view.injEq] at this;exact qas t this.2
theorem Shut.noPending(h:Shut F w){r:Nat}{a:Array Value}{t:TypeId}(hl:F.live r):w.heap[r]?≠some (.pending a t):=fun e=>by
 have:=h.obj _ (qi4 F _) r _ hl e;simp only[Obj.pm,Obj.pending.injEq] at this;exact qas t this.2
theorem Shut.noChan(h:Shut F w){r:Nat}{o:Obj}(hl:F.live r)(e:w.heap[r]?=some o):o.isChan=false:=by
 cases o with
 | chan cap buf cl st rc tm =>
   have:=h.obj _ (qbu F _) r _ hl e;simp only[Obj.pm,Obj.chan.injEq] at this;exact absurd this.2.2.1 (by simp[permB])
 |_=>rfl
end
structure Ran (F:Fam) (π π':Perm) (w wa w' wa':World):Prop where
 sim:Sim F π' w' wa'
 shut:Shut F w'
 grow:w.heap.size<=w'.heap.size
 growa:wa.heap.size<=wa'.heap.size
 same:∀r,r<w.heap.size->π'.f r=π.f r
 fresh:∀r,w.heap.size<=r->r<w'.heap.size->wa.heap.size<=π'.f r
 frame:∀b,b<wa.heap.size->(∀r,F.gs+5<=r->r<w.heap.size->π.f r≠b)->wa'.heap[b]?=wa.heap[b]?
 base:∀b,b<F.gs+5->w'.heap[b]?=w.heap[b]?
 tape:w'.tape=w.tape
 tapea:wa'.tape=wa.tape
 os:w'.os=w.os
 outa:wa'.output=wa.output
 rest:π'.g=π.g/\π'.h=π.h/\π'.b=π.b
theorem Ran.refl{F:Fam}{π:Perm}{w wa:World}(h:Sim F π w wa)(hs:Shut F w):Ran F π π w wa w wa:=
 ⟨h,hs,yb _,yb _,fun _ _=>rfl,fun r h1 h2=>by omega,fun _ _ _=>rfl,fun _ _=>rfl,rfl,rfl,rfl,rfl,rfl,rfl,rfl⟩
theorem Ran.trans{F:Fam}{π π' π'':Perm}{w wa w' wa' w'' wa'':World}(h:Ran F π π' w wa w' wa')(k:Ran F π' π'' w' wa' w'' wa''):Ran F π π'' w wa w'' wa'':=by
 refine⟨k.sim,k.shut,yr h.grow k.grow,yr h.growa k.growa,fun r hr=>(k.same r (yg hr h.grow)).trans (h.same r hr),fun r h1 h2=>?_,fun b hb hr=>?_,fun b hb=>(k.base b hb).trans (h.base b hb),k.tape.trans h.tape,k.tapea.trans h.tapea,k.os.trans h.os,k.outa.trans h.outa,k.rest.1.trans h.rest.1,k.rest.2.1.trans h.rest.2.1,k.rest.2.2.trans h.rest.2.2⟩
 ·by_cases hc:r<w'.heap.size
  ·rw[k.same r hc];exact h.fresh r h1 hc
  ·exact yr h.growa (k.fresh r (by omega) h2)
 ·rw[k.frame b (yg hb h.growa) fun r hl hr' e=>?_,h.frame b hb hr];by_cases hc:r<w.heap.size
  ·exact hr r hl hc (by rw[<-h.same r hc];exact e)
  ·have:=h.fresh r (by omega) hr';omega
section
variable {F:Fam}{π:Perm}{w wa:World}
theorem Sim.lt(h:Sim F π w wa){r:Nat}(hr:r<w.heap.size):π.f r<wa.heap.size:=by
 by_cases hl:F.live r
 ·have:=h.obj r _ hl (yl hr);exact(yk.1 this).1
 ·have:r<F.gs+5:=by unfold Fam.live at hl;omega
  rw[h.ids r this];have:=h.lowa;omega
theorem Sim.below(h:Sim F π w wa)(r:Nat):π.f r<F.gs↔r<F.gs:=by
 constructor
 ·intro hr;have:=π.inj (h.ids (π.f r) (by omega));omega
 ·intro hr;rw[h.ids r (by omega)];exact hr
theorem Sim.cell(h:Sim F π w wa){a:Addr}{v:Value}(hl:F.live a.block)(hc:w.cell? a=some v):wa.cell? (a.pm π)=some (v.pm π):=by
 unfold World.cell? at hc ⊢;simp only[qcw,qa5,qb5];cases hb:w.heap[a.block]? with
 |none=>rw[hb] at hc;cases hc
 | some o =>
   rw[hb] at hc;rw[h.obj _ _ hl hb];cases o <;> simp only[Obj.pm] at hc ⊢ <;> try cases hc
   by_cases hsp:a.spot.isSome=true
   ·simp[hsp] at hc
   ·simp[hsp] at hc ⊢;simp[hc]
theorem Sim.frozen(h:Sim F π w wa){a:Addr}(hl:a.block<w.heap.size/\F.live a.block):wa.frozen? (a.pm π)=w.frozen? a:=by
 unfold World.frozen?;simp only[qcw,qa5];rw[yl hl.1,h.obj _ _ hl.2 (yl hl.1)];cases w.heap[a.block] <;> rfl
theorem Sim.shape(h:Sim F π w wa){r:Nat}(hl:r<w.heap.size/\F.live r):wa.shape? (π.f r)=w.shape? r:=by
 unfold World.shape?;rw[yl hl.1,h.obj _ _ hl.2 (yl hl.1)];cases w.heap[r] <;> simp[Obj.pm]
theorem Ran.modify(h:Sim F π w wa)(hs:Shut F w){r:Nat}(hl:r<w.heap.size)(hown:F.gs+5<=r){f f':Obj->Obj}(hf:∀o,f' (o.pm π)=(f o).pm π)(hp:∀σ,Fixes F w.heap.size σ->∀o,o.pm σ=o->(f o).pm σ=f o) :
 Ran F π π w wa { w with heap:=w.heap.modify r f } { wa with heap:=wa.heap.modify (π.f r) f' }:=by
 refine⟨⟨fun x o hxl hx=>?_,h.ids,by simpa using h.low,by simpa using h.lowa,h.os,h.tape⟩,⟨fun σ hσ x o hxl hx=>?_⟩,by simp,by simp,fun _ _=>rfl,fun x h1 h2=>by simp at h2;omega,fun b hb hr=>?_,fun b hb=>?_,rfl,rfl,rfl,rfl,rfl,rfl,rfl⟩
 ·simp only[yaG] at hx ⊢;by_cases hrx:r=x
  ·subst hrx;simp only[if_true] at hx ⊢;rw[yl hl] at hx;cases hx;rw[h.obj _ _ hxl (yl hl)];simp[hf]
  ·rw[if_neg hrx] at hx;rw[if_neg (fun e=>hrx (π.inj e))];exact h.obj _ _ hxl hx
 ·simp only[Array.size_modify] at hσ;simp only[yaG] at hx;by_cases hrx:r=x
  ·subst hrx;simp only[if_true] at hx;rw[yl hl] at hx;cases hx;exact hp σ hσ _ (hs.obj σ hσ _ _ hxl (yl hl))
  ·rw[if_neg hrx] at hx;exact hs.obj σ hσ _ _ hxl hx
 ·simp only[yaG];rw[if_neg (hr r hown hl)]
 ·simp only[yaG];rw[if_neg (by omega)]
end
def Within(F:Fam)(π:Perm)(n:Nat)(e:Event):Prop:=
 match e.loc with
 |.cell a=>∃r,F.gs+5<=r/\r<n/\π.f r=a.block
 |.obj b=>(∃r,F.gs+5<=r/\r<n/\π.f r=b)/\e.sync=false
 |.mark m=>m=.noRoom
 |.output=>True
 |.goroutines=>False
theorem Within.mono{F:Fam}{π π':Perm}{w wa w' wa':World}(h:Ran F π π' w wa w' wa'){e:Event}(he:Within F π w.heap.size e):Within F π' w'.heap.size e:=by
 obtain⟨loc,wr,sy⟩:=e;cases loc with
 |cell a=>obtain⟨r,h8,hr,e⟩:=he;exact⟨r,h8,yg hr h.grow,by rw[h.same r hr,e]⟩
 |obj b=>obtain⟨⟨r,h8,hr,e⟩,hsy⟩:=he;exact⟨⟨r,h8,yg hr h.grow,by rw[h.same r hr,e]⟩,hsy⟩
 |mark m=>exact he
 |output=>trivial
 |goroutines=>exact he
theorem qk1{h:Halt}(hB:h.pm permB=h)(hH:h.pm permH=h):(∃v,h=.panic v)\/(∃u,h=.stuck u)\/∃u,h=.unsupported u/\∀g,u≠.initOrder g:=by
 cases h with
 |panic v=>exact .inl ⟨v,rfl⟩
 |stuck u=>exact .inr (.inl ⟨u,rfl⟩)
 | unsupported u =>
   refine .inr (.inr ⟨u,rfl,fun g e=>?_⟩);subst e;simp only[Halt.pm,Halt.unsupported.injEq,Unsupported.initOrder.injEq] at hH;exact qas g hH
 | exit c =>
   exfalso
   by_cases hc:c=0
   ·simp[Halt.pm,permB,haltFlip,hc] at hB
   ·simp[Halt.pm,permB,haltFlip,hc] at hB;omega
 |_=>exfalso;simp[Halt.pm,permB,haltFlip] at hB
def qrf{α:Type}(P:Program)(F:Fam)(H:Perm->α->α)(π:Perm)(w wa:World)(s:Sem α):Prop:=∀es esa,
 (∀a w' es',s.runT P w es=(.ok a w',es')->∃π' wa' d,(s.act π (H π)).runT P wa esa=(.ok (H π' a) wa',esa++d)/\Ran F π π' w wa w' wa'/\(∀e∈d,Within F π' w'.heap.size e)/\∀σ,Fixes F w'.heap.size σ->H σ a=a)/\
 (∀h w' es',s.runT P w es=(.halt h w',es')->(∃v,h=.panic v)\/(∃u,h=.stuck u)\/∃u,h=.unsupported u/\∀g,u≠.initOrder g)
section
variable {α:Type}{P:Program}{F:Fam}{H:Perm->α->α}{π:Perm}{w wa:World}
theorem qrf.ahead{πB:Perm}{wB waB:World}{s sL:Sem α}(dB:Array Event)(esB:Array Event->Array Event)
 (hl:∀es,s.runT P w es=sL.runT P wB (esB es)) (ha:∀esa,(s.act π (H π)).runT P wa esa=(sL.act πB (H πB)).runT P waB (esa++dB))
 (hr:Ran F π πB w wa wB waB) (hd:∀e∈dB,Within F πB wB.heap.size e) (h:qrf P F H πB wB waB sL):qrf P F H π w wa s:=by
 intro es esa;constructor
 ·intro a w' es' e;rw[hl] at e;obtain⟨π',wa',d,h1,h2,h3,h4⟩:=(h (esB es) (esa++dB)).1 a w' es' e;refine⟨π',wa',dB++d,by rw[ha,h1,Array.append_assoc],hr.trans h2,fun e he=>?_,h4⟩;rcases ybf.1 he with he|he
  ·exact(hd e he).mono h2
  ·exact h3 e he
 ·intro x w' es' e;rw[hl] at e;exact(h (esB es) (esa++dB)).2 x w' es' e
theorem qrf.halted{s:Sem α}(h:Halt)(hl:∀es,∃w' es',s.runT P w es=(.halt h w',es'))(hc:(∃v,h=.panic v)\/(∃u,h=.stuck u)\/∃u,h=.unsupported u/\∀g,u≠.initOrder g):qrf P F H π w wa s:=by
 intro es esa;obtain⟨wB,esB,he⟩:=hl es;constructor
 ·intro a w' es' e;rw[he] at e;injection e with e1 e2;cases e1
 ·intro x w' es' e;rw[he] at e;injection e with e1 e2;injection e1 with e3 e4;subst e3;exact hc
theorem Shut.cell(hs:Shut F w){a:Addr}{v:Value}(hl:F.live a.block)(hc:w.cell? a=some v){σ:Perm}(hσ:Fixes F w.heap.size σ):v.pm σ=v:=by
 unfold World.cell? at hc;cases hb:w.heap[a.block]? with
 |none=>rw[hb] at hc;cases hc
 | some o =>
   have ho:=hs.obj σ hσ _ _ hl hb;rw[hb] at hc;cases o <;> simp only at hc <;> try cases hc
   by_cases hsp:a.spot.isSome=true
   ·simp[hsp] at hc
   ·rename_i c elem fz
    simp[hsp] at hc;simp only[Obj.pm,Obj.cells.injEq,and_true] at ho;have:=congrArg (fun x=>x[a.off]?) ho;simp only[yw,hc,yp,yA] at this;exact this
theorem qmc{σ:Perm}{v:Value}(h:v.pm σ=v):v.pm σ.inv=v:=by
 have:=ql6 σ v;rw[h] at this;exact this
theorem qk2{σ:Perm}{v:Obj}(h:v.pm σ=v):v.pm σ.inv=v:=by
 have:=qkh σ v;rw[h] at this;exact this
theorem qac{m:Mode}{a:Addr}{v:Value}{k:Sem α}{es:Array Event}(hv:(∀c,v≠.agg c)/\∀c,v≠.tuple c):(Sem.store m a v k).runT P w es=match w.cell? a with
 |some _ => if w.frozen? a then (.halt (.unsupported (.unsafePointer "a write to bytes that a string shares")) w, es) else k.runT P (w.setCell a v) (es.push ⟨.cell a, true, m == .atomic⟩)
 | none => match w.farStore P a v (m == .atomic) with
   |.ok (w,touched)=>k.runT P w (es++touched.toArray.map (⟨.cell ·,true,m == .atomic⟩))
   |.error h=>(.halt h w,es):=by
 cases v <;> first|rfl|exact absurd rfl (hv.1 _)|exact absurd rfl (hv.2 _)
theorem qbv{r:Nat}{o:Obj}{k:Obj->Sem α}{es:Array Event}(hg:w.heap[r]?=some o)(hc:∀c e f,o≠.cells c e f):(Sem.getObj r k).runT P w es=(k o).runT P w (es.push ⟨.obj r,false,o.isChan⟩):=by
 simp only[Sem.runT,hg]
theorem qbw{r:Nat}{o o':Obj}{k:Sem α}{es:Array Event}(hg:w.heap[r]?=some o)(hc:∀c e f,o≠.cells c e f):(Sem.setObj r o' k).runT P w es=k.runT P { w with heap:=w.heap.setIfInBounds r o' } (es.push ⟨.obj r,true,o'.isChan⟩):=by
 simp only[Sem.runT,hg]
theorem qf6{o:Obj}(hc:∀c e f,o≠.cells c e f):∀c e f,o.pm π≠.cells c e f:=by
 intro c e f;cases o <;> simp[Obj.pm];exact absurd rfl (hc _ _ _)
theorem qdv(hs:Shut F w)(a:Addr)(hl:F.live a.block)(what:String):w.noCell a what=.stuck what:=by
 unfold World.noCell;split
 ·rename_i h;exact absurd h (hs.noPending hl)
 ·rename_i h;exact absurd h (hs.noView hl)
 ·rfl
theorem qgs(hH:∀π σ a,H π (H σ a)=H (π.comp σ) a):∀(s:Sem α) {π:Perm}{w wa:World},Sim F π w wa->Shut F w->(∀σ,Fixes F w.heap.size σ->s.act σ (H σ)=s)->qrf P F H π w wa s:=by
 intro s;induction s with
 | pure a =>
   intro π w wa h hs hf es esa;constructor
   ·intro b w' es' e;simp only[Sem.runT,yau,Result.ok.injEq] at e;obtain⟨⟨rfl,rfl⟩,rfl⟩:=e;exact⟨π,wa,#[],by simp[Sem.act,Sem.runT],Ran.refl h hs,by simp,fun σ hσ=>by have:=hf σ hσ;simpa[Sem.act] using this⟩
   ·intro b w' es' e;simp only[Sem.runT,yau] at e;cases e.1
 | halt x =>
   intro π w wa h hs hf;refine qrf.halted x (fun es=>⟨w,es,rfl⟩) (qk1 ?_ ?_)
   ·have:=hf _ (qbu F _);simpa[Sem.act] using this
   ·have:=hf _ (qi4 F _);simpa[Sem.act] using this
 | program k ih =>
   intro π w wa h hs hf;refine qrf.ahead (πB:=π) (wB:=w) (waB:=wa) (sL:=k P) #[] (fun es=>es) (fun es=>rfl) (fun esa=>by simp[Sem.act,Sem.runT]) (Ran.refl h hs) (by simp) (ih P h hs fun σ hσ=>?_);have:=hf σ hσ;simp only[Sem.act,Sem.program.injEq] at this;exact congrFun this P
 | mark m k ih =>
   intro π w wa h hs hf;have hm:m=.noRoom:=by
    apply Classical.byContradiction;intro hne;have:=hf _ (qbu F _);simp only[Sem.act,Sem.mark.injEq] at this;have h1:qru permB m=m:=by cases m <;> rfl
    have h2:=this.1;unfold Mark.pm at h2;rw[h1] at h2;exact qi2 hne h2
   subst hm;refine qrf.ahead (πB:=π) (wB:=w) (waB:=wa) (sL:=k) #[⟨.mark .noRoom,false,true⟩] (fun es=>es.push ⟨.mark .noRoom,false,true⟩) (fun es=>rfl) (fun esa=>?_) (Ran.refl h hs) (fun e he=>?_) (ih h hs fun σ hσ=>?_)
   ·simp only[Sem.act,Sem.runT,<-qeh];rfl
   ·rw[yba] at he;subst he;rfl
   ·have:=hf σ hσ;simp only[Sem.act,Sem.mark.injEq] at this;exact this.2
 | choose q k ih =>
   intro π w wa h hs hf;have hk:∀n σ,Fixes F w.heap.size σ->(k n).act σ (H σ)=k n:=fun n σ hσ=>by
    have:=hf σ hσ;simp only[Sem.act,Sem.choose.injEq,true_and] at this;exact congrFun this n
   by_cases hq:q.forced=true
   ·exact qrf.ahead (πB:=π) (wB:=w) (waB:=wa) (sL:=k 0) #[] (fun es=>es) (fun es=>by simp[Sem.runT,hq]) (fun esa=>by simp[Sem.act,Sem.runT,hq]) (Ran.refl h hs) (by simp) (ih 0 h hs (hk 0))
   ·have e:=h.tape 0 q;simp only[ya4] at e;have h':Sim F π { w with drawn:=w.drawn+1 } { wa with drawn:=wa.drawn+1 }:=⟨h.obj,h.ids,h.low,h.lowa,h.os,fun i q=>by have:=h.tape (i+1) q;simpa[Nat.add_assoc,Nat.add_comm 1] using this⟩;have hs':Shut F { w with drawn:=w.drawn+1 }:=⟨hs.obj⟩;refine qrf.ahead (πB:=π) (wB:={ w with drawn:=w.drawn+1 }) (waB:={ wa with drawn:=wa.drawn+1 }) (sL:=k (q.cut (w.tape w.drawn q))) #[] (fun es=>es) (fun es=>by simp[Sem.runT,hq]) (fun esa=>by simp[Sem.act,Sem.runT,hq,e]) ?_ (by simp) (ih _ h' hs' (hk _));exact⟨h',hs',yb _,yb _,fun _ _=>rfl,fun r h1 h2=>absurd h2 (yan.2 h1),fun _ _ _=>rfl,fun _ _=>rfl,rfl,rfl,rfl,rfl,rfl,rfl,rfl⟩
 | sys c k ih =>
   intro π w wa h hs hf;have:=hf _ (qbu F _);simp only[Sem.act] at this;cases this
 | load m a k ih =>
   intro π w wa h hs hf;have ha:∀σ,Fixes F w.heap.size σ->a.pm σ=a/\∀v,(k (v.pm σ.inv)).act σ (H σ)=k v:=fun σ hσ=>by
    have:=hf σ hσ;simp only[Sem.act,Sem.load.injEq,true_and] at this;exact⟨this.1,fun v=>congrFun this.2 v⟩
   have hl:a.block<w.heap.size/\F.live a.block:=qan h.low fun σ hσ=>congrArg Addr.block (ha σ hσ).1;cases hc:w.cell? a with
   | none =>
     refine qrf.halted (.stuck "load: no such cell") (fun es => ⟨w, es, ?_⟩) (.inr (.inl ⟨_, rfl⟩));have hfar : w.farLoad P a (m == .atomic) = .error (.stuck "load: no such cell") := by
      unfold World.farLoad;split
      ·rename_i hv;exact absurd hv (hs.noView hl.2)
      ·rw[qdv hs _ hl.2]
     simp only[Sem.runT,hc,hfar]
   | some v =>
     refine qrf.ahead (πB:=π) (wB:=w) (waB:=wa) (sL:=k v) #[⟨.cell (a.pm π),false,m == .atomic⟩] (fun es=>es.push ⟨.cell a,false,m == .atomic⟩) (fun es=>by simp only[Sem.runT,hc]) (fun esa=>?_) (Ran.refl h hs) (fun e he=>?_) (ih v h hs fun σ hσ=>?_)
     ·simp only[Sem.act,Sem.runT,h.cell hl.2 hc,ql6];rfl
     ·rw[yba] at he;subst he;exact⟨a.block,hl.2,hl.1,rfl⟩
     ·have:=(ha σ hσ).2 v;rwa [qmc (hs.cell hl.2 hc hσ)] at this
 | shape r k ih =>
   intro π w wa h hs hf;have hr:r<w.heap.size/\F.live r:=qan h.low fun σ hσ=>by have:=hf σ hσ;simp only[Sem.act,Sem.shape.injEq] at this;exact this.1
   refine qrf.ahead (πB:=π) (wB:=w) (waB:=wa) (sL:=k (w.shape? r)) #[] (fun es=>es) (fun es=>rfl) (fun esa=>by simp[Sem.act,Sem.runT,h.shape hr]) (Ran.refl h hs) (by simp) (ih _ h hs fun σ hσ=>?_);have:=hf σ hσ;simp only[Sem.act,Sem.shape.injEq] at this;exact congrFun this.2 _
 | frozen a k ih =>
   intro π w wa h hs hf;have hr:a.block<w.heap.size/\F.live a.block:=qan h.low fun σ hσ=>by have:=hf σ hσ;simp only[Sem.act,Sem.frozen.injEq] at this;exact congrArg Addr.block this.1
   refine qrf.ahead (πB:=π) (wB:=w) (waB:=wa) (sL:=k (w.frozen? a)) #[] (fun es=>es) (fun es=>rfl) (fun esa=>by simp[Sem.act,Sem.runT,h.frozen hr]) (Ran.refl h hs) (by simp) (ih _ h hs fun σ hσ=>?_);have:=hf σ hσ;simp only[Sem.act,Sem.frozen.injEq] at this;exact congrFun this.2 _
 | freeze a n k ih =>
   intro π w wa h hs hf;have hr:a.block<w.heap.size/\F.live a.block:=qan h.low fun σ hσ=>by have:=hf σ hσ;simp only[Sem.act,Sem.freeze.injEq] at this;exact congrArg Addr.block this.1
   have hk:∀σ,Fixes F w.heap.size σ->k.act σ (H σ)=k:=fun σ hσ=>by have:=hf σ hσ;simp only[Sem.act,Sem.freeze.injEq] at this;exact this.2.2
   by_cases hn:n=0
   ·exact qrf.ahead (πB:=π) (wB:=w) (waB:=wa) (sL:=k) #[] (fun es=>es) (fun es=>by simp[Sem.runT,World.freeze,hn]) (fun esa=>by simp[Sem.act,Sem.runT,World.freeze,hn]) (Ran.refl h hs) (by simp) (ih h hs hk)
   ·have hR:Ran F π π w wa (w.freeze a n) (wa.freeze (a.pm π) n):=by
     unfold World.freeze;rw[if_neg hn,if_neg hn];exact Ran.modify h hs hr.1 hr.2 (fun o=>by cases o <;> rfl) (fun σ hσ o ho=>by cases o <;> simp_all[Obj.pm])
    have hsz:(w.freeze a n).heap.size=w.heap.size:=by unfold World.freeze;rw[if_neg hn];simp
    exact qrf.ahead (πB:=π) (wB:=w.freeze a n) (waB:=wa.freeze (a.pm π) n) (sL:=k) #[] (fun es=>es) (fun es=>rfl) (fun esa=>by simp[Sem.act,Sem.runT]) hR (by simp) (ih hR.sim hR.shut fun σ hσ=>hk σ (by rw[hsz] at hσ;exact hσ))
 | getObj r k ih =>
   intro π w wa h hs hf;have hk:∀σ,Fixes F w.heap.size σ->σ.f r=r/\∀o,(k (o.pm σ.inv)).act σ (H σ)=k o:=fun σ hσ=>by
    have:=hf σ hσ;simp only[Sem.act,Sem.getObj.injEq] at this;exact⟨this.1,fun o=>congrFun this.2 o⟩
   have hv:r<w.heap.size/\F.live r:=qan h.low fun σ hσ=>(hk σ hσ).1;have hr:=hv.1;have hg:=yl hr;have hga:=h.obj _ _ hv.2 hg;generalize w.heap[r]=o at hg hga;by_cases hcell:∃c e f,o=.cells c e f
   ·obtain⟨c,e,f,rfl⟩:=hcell;exact qrf.halted (.stuck "getObj: a row of cells") (fun es => ⟨w, es, by simp only [Sem.runT, hg]⟩) (.inr (.inl ⟨_, rfl⟩))
   ·have hl:∀es,(Sem.getObj r k).runT P w es=(k o).runT P w (es.push ⟨.obj r,false,o.isChan⟩):=fun es=>by
     exact qbv hg fun c e f h=>hcell ⟨c,e,f,h⟩
    have hla:∀es,((Sem.getObj r k).act π (H π)).runT P wa es=((k o).act π (H π)).runT P wa (es.push ⟨.obj (π.f r),false,(o.pm π).isChan⟩):=fun es=>by
     simp only[Sem.act];rw[qbv hga (qf6 fun c e f h=>hcell ⟨c,e,f,h⟩),qkh]
    refine qrf.ahead (πB:=π) (wB:=w) (waB:=wa) (sL:=k o) #[⟨.obj (π.f r),false,(o.pm π).isChan⟩] (fun es=>es.push ⟨.obj r,false,o.isChan⟩) hl (fun esa=>by rw[hla];rfl) (Ran.refl h hs) (fun e he=>?_) (ih o h hs fun σ hσ=>?_)
    ·rw[yba] at he;subst he;refine⟨⟨r,hv.2,hr,rfl⟩,?_⟩;have hc:=hs.noChan hv.2 hg;cases o <;> first|rfl|exact hc
    ·have:=(hk σ hσ).2 o;rwa [qk2 (hs.obj σ hσ _ _ hv.2 hg)] at this
 | setObj r o' k ih =>
   intro π w wa h hs hf;have hk:∀σ,Fixes F w.heap.size σ->σ.f r=r/\o'.pm σ=o'/\k.act σ (H σ)=k:=fun σ hσ=>by
    have:=hf σ hσ;simp only[Sem.act,Sem.setObj.injEq] at this;exact this
   have hv:r<w.heap.size/\F.live r:=qan h.low fun σ hσ=>(hk σ hσ).1;have hr:=hv.1;have hg:=yl hr;have hga:=h.obj _ _ hv.2 hg;generalize w.heap[r]=o at hg hga;by_cases hcell:∃c e f,o=.cells c e f
   ·obtain⟨c,e,f,rfl⟩:=hcell;exact qrf.halted (.stuck "setObj: a row of cells") (fun es => ⟨w, es, by simp only [Sem.runT, hg]⟩) (.inr (.inl ⟨_, rfl⟩))
   ·have hl:∀es,(Sem.setObj r o' k).runT P w es=k.runT P { w with heap:=w.heap.setIfInBounds r o' } (es.push ⟨.obj r,true,o'.isChan⟩):=fun es=>by
     exact qbw hg fun c e f h=>hcell ⟨c,e,f,h⟩
    have hla:∀es,((Sem.setObj r o' k).act π (H π)).runT P wa es=(k.act π (H π)).runT P { wa with heap:=wa.heap.setIfInBounds (π.f r) (o'.pm π) } (es.push ⟨.obj (π.f r),true,(o'.pm π).isChan⟩):=fun es=>by
     simp only[Sem.act];rw[qbw hga (qf6 fun c e f h=>hcell ⟨c,e,f,h⟩)]
    have hmod:∀(hp:Array Obj) (x:Nat) (y:Obj),hp.setIfInBounds x y=hp.modify x fun _=>y:=fun hp x y=>by
     apply yap;intro j;simp only[yac,yaG];by_cases hj:x=j
     ·subst hj;by_cases hx:x<hp.size <;> simp[hx]
     ·simp[hj]
    have hR:Ran F π π w wa { w with heap:=w.heap.setIfInBounds r o' } { wa with heap:=wa.heap.setIfInBounds (π.f r) (o'.pm π) }:=by
     rw[hmod,hmod];exact Ran.modify h hs hr (hv.2) (fun _=>rfl) (fun σ hσ _ _=>(hk σ hσ).2.1)
    have hch:(o'.pm π).isChan=false:=by
     have:o'.isChan=false:=by
      cases o' with
      | chan cap buf cl st rc tm =>
        have:=(hk _ (qbu F _)).2.1;simp only[Obj.pm,Obj.chan.injEq] at this;exact absurd this.2.2.1 (by simp[permB])
      |_=>rfl
     cases o' <;> first|rfl|exact this
    refine qrf.ahead (πB:=π) (sL:=k) #[⟨.obj (π.f r),true,(o'.pm π).isChan⟩] (fun es=>es.push ⟨.obj r,true,o'.isChan⟩) hl (fun esa=>by rw[hla];rfl) hR (fun e he=>?_) (ih hR.sim hR.shut fun σ hσ=>(hk σ (by simpa using hσ)).2.2);rw[yba] at he;subst he;exact⟨⟨r,hv.2,by simpa using hr,rfl⟩,hch⟩
 | store m a v k ih =>
   intro π w wa h hs hf;have hk:∀σ,Fixes F w.heap.size σ->a.pm σ=a/\v.pm σ=v/\k.act σ (H σ)=k:=fun σ hσ=>by
    have:=hf σ hσ;simp only[Sem.act,Sem.store.injEq,true_and] at this;exact this
   have hl:a.block<w.heap.size/\F.live a.block:=qan h.low fun σ hσ=>congrArg Addr.block (hk σ hσ).1;have hr:=hl.1;by_cases hv:(∀c,v≠.agg c)/\∀c,v≠.tuple c
   ·have hva:(∀c,v.pm π≠.agg c)/\∀c,v.pm π≠.tuple c:=by
     cases v <;> simp <;> first|exact absurd rfl (hv.1 _)|exact absurd rfl (hv.2 _)
    cases hc:w.cell? a with
    | none =>
      refine qrf.halted (.stuck "store: no such cell") (fun es => ⟨w, es, ?_⟩) (.inr (.inl ⟨_, rfl⟩));have hfar : w.farStore P a v (m == .atomic) = .error (.stuck "store: no such cell") := by
       unfold World.farStore;split
       ·rename_i hv;exact absurd hv (hs.noView hl.2)
       ·rw[qdv hs _ hl.2]
      rw[qac hv];simp only[hc,hfar]
    | some u =>
      by_cases hz:w.frozen? a=true
      ·exact qrf.halted (.unsupported (.unsafePointer "a write to bytes that a string shares")) (fun es => ⟨w, es, by rw [qac hv]; simp only [hc, hz, if_true]⟩) (.inr (.inr ⟨_, rfl, fun g e => by cases e⟩))
      ·have hza:¬wa.frozen? (a.pm π)=true:=by rw[h.frozen hl];exact hz
       have hR:Ran F π π w wa (w.setCell a v) (wa.setCell (a.pm π) (v.pm π)):=by
        refine Ran.modify h hs hr (hl.2) (fun o=>?_) (fun σ hσ o ho=>?_)
        ·cases o <;> first|rfl|skip
         simp only[Obj.pm,qb5,qa5];by_cases hsp:a.spot.isSome=true
         ·simp[hsp]
         ·simp only[hsp];congr 1;apply yap;intro j;simp only[yH,if_false,yw,yac,yaI];by_cases hj:a.off=j
          ·simp only[hj,if_true];split <;> simp
          ·simp only[hj,if_false]
        ·cases o <;> first|exact ho|skip
         rename_i c e fz
         simp only[Obj.pm,Obj.cells.injEq,and_true] at ho ⊢;split
         ·exact ho
         ·apply yap;intro j;have hj:=congrArg (fun x=>x[j]?) ho;simp only[yw] at hj;simp only[yw,yac];split
          ·split <;> simp[(hk σ hσ).2.1]
          ·exact hj
       have hsz:(w.setCell a v).heap.size=w.heap.size:=by unfold World.setCell;simp
       refine qrf.ahead (πB:=π) (sL:=k) #[⟨.cell (a.pm π),true,m == .atomic⟩] (fun es=>es.push ⟨.cell a,true,m == .atomic⟩) (fun es=>?_) (fun esa=>?_) hR (fun e he=>?_) (ih hR.sim hR.shut fun σ hσ=>(hk σ (by rw[hsz] at hσ;exact hσ)).2.2)
       ·rw[qac hv];simp only[hc,hz];rfl
       ·simp only[Sem.act];rw[qac hva];simp only[h.cell hl.2 hc,hza];rfl
       ·rw[yba] at he;subst he;exact⟨a.block,hl.2,by rw[hsz];exact hr,rfl⟩
   ·refine qrf.halted (.stuck "store: not the value of one cell") (fun es => ⟨w, es, ?_⟩) (.inr (.inl ⟨_, rfl⟩));cases v <;> first|rfl|exact absurd (And.intro (fun c e=>(by cases e)) (fun c e=>(by cases e))) hv
 | new o k ih =>
   intro π w wa h hs hf;have hk:∀σ,Fixes F w.heap.size σ->o.pm σ=o/\∀r,(k (σ.i r)).act σ (H σ)=k r:=fun σ hσ=>by
    have:=hf σ hσ;simp only[Sem.act,Sem.new.injEq] at this;exact⟨this.1,fun r=>congrFun this.2 r⟩
   let π':=π.swap (π.f w.heap.size) wa.heap.size
   have hnew:π'.f w.heap.size=wa.heap.size:=by show (if π.f w.heap.size=π.f w.heap.size then wa.heap.size else _)=_;rw[if_pos rfl]
   have hold:∀r,r<w.heap.size->π'.f r=π.f r:=fun r hr=>by
    have h1:π.f r≠π.f w.heap.size:=fun e=>by have:=π.inj e;omega
    have h2:π.f r≠wa.heap.size:=by have:=h.lt hr;omega
    show (if π.f r=π.f w.heap.size then wa.heap.size else if π.f r=wa.heap.size then _ else π.f r)=π.f r;rw[if_neg h1,if_neg h2]
   have hlow:=h.low;have hlowa:=h.lowa;have hids':∀r,r<F.gs+5->π'.f r=r:=fun r hr=>by rw[hold r (by omega)];exact h.ids r hr
   have hbelow':∀r,π'.f r<F.gs↔r<F.gs:=fun r=>⟨fun hr=>by have:=π'.inj (hids' (π'.f r) (by omega));omega,fun hr=>by rw[hids' r (by omega)];exact hr⟩;have hσ:Fixes F w.heap.size (π.inv.comp π'):=⟨fun r _ hr=>by show π.i (π'.f r)=r;rw[hold r hr,π.if_],fun f _=>π.jg f,fun r=>by
    show π.i (π'.f r)<F.gs↔r<F.gs;rw[<-hbelow' r,<-h.below (π.i (π'.f r)),π.fi]⟩
   have hcc:π.comp (π.inv.comp π')=π':=qel π π';have hobj:∀x:Obj,x.pm (π.inv.comp π')=x->x.pm π'=x.pm π:=fun x hx=>by
    rw[<-hcc,<-obj_comp,hx]
   have hR:Ran F π π' w wa { w with heap:=w.heap.push o } { wa with heap:=wa.heap.push (o.pm π) }:=by
    refine⟨⟨fun x y hxv hx=>?_,hids',by simp;omega,by simp;omega,h.os,h.tape⟩,⟨fun σ hσ' x y hxv hx=>?_⟩,by simp,by simp,hold,fun x h1 h2=>?_,fun b hb _=>?_,fun b hb=>?_,rfl,rfl,rfl,rfl,rfl,rfl,rfl⟩
    ·simp only[Array.getElem?_push] at hx ⊢;by_cases hxn:x=w.heap.size
     ·subst hxn;simp only[if_true,yA] at hx;subst hx;rw[hnew,if_pos rfl,hobj _ (hk _ hσ).1]
     ·rw[if_neg hxn] at hx;have hxl:x<w.heap.size:=(yk.1 hx).1;rw[hold x hxl,if_neg (by have:=h.lt hxl;omega),h.obj _ _ hxv hx,hobj _ (hs.obj _ hσ _ _ hxv hx)]
    ·have hσ'':Fixes F w.heap.size σ:=hσ'.mono (by simp);simp only[Array.getElem?_push] at hx;by_cases hxn:x=w.heap.size
     ·subst hxn;simp only[if_true,yA] at hx;subst hx;exact(hk σ hσ'').1
     ·rw[if_neg hxn] at hx;exact hs.obj σ hσ'' _ _ hxv hx
    ·simp only[Array.size_push] at h2;have:x=w.heap.size:=by omega
     subst this;rw[hnew];exact yb _
    ·simp only[Array.getElem?_push];rw[if_neg (by omega)]
    ·simp only[Array.getElem?_push];rw[if_neg (by omega)]
   refine qrf.ahead (πB:=π') (sL:=k w.heap.size) #[] (fun es=>es) (fun es=>rfl) (fun esa=>?_) hR (by simp) (ih _ hR.sim hR.shut fun σ hσ'=>?_)
   ·have e1:=(hk _ hσ).2 (π.i wa.heap.size);have e2:(π.inv.comp π').i (π.i wa.heap.size)=w.heap.size:=by
     show π'.i (π.f (π.i wa.heap.size))=w.heap.size;rw[π.fi,<-hnew,π'.if_]
    rw[e2] at e1;simp only[Sem.act,Sem.runT,yaJ];rw[<-e1,qod hH,hcc]
   ·have hσ'':Fixes F w.heap.size σ:=hσ'.mono (by simp);have e1:=(hk σ hσ'').2 w.heap.size;have e2:σ.i w.heap.size=w.heap.size:=by
     have:=hσ'.1 w.heap.size hlow (by simp);have h3:=σ.if_ w.heap.size;rw[this] at h3;exact h3
    rwa [e2] at e1
end
end
end Go.Pm
