import Derived.Test.YtoklolfaemhfnaaGreatDoorZah
set_option maxRecDepth 100000
set_option maxHeartbeats 0
set_option linter.defProp false
namespace Go.Pm
section
open Go
section
variable {P:Program}{π:Perm}(S:dE P π){α β:Type}
def ay.b3:∀(n:Nat) (t:TypeId) (x y:Value),ay P π (fun x=>x) (Op.eqGuardIn n t (x.pm π) (y.pm π)) (Op.eqGuardIn n t x y)
 |0,_,_,_=>ay.b _
 | n + 1, t, x, y => by
   have c:=ay.b3 n;refine ay.a ay.e fun d=>?_;cases d with
   |interface j=>cases x <;> cases y <;> exact ay.c rfl
   | struct a =>
     cases x with
     | agg h =>
       cases y with
       | agg g =>
         simp only[kY];refine ay.a (ay.e9 (fun f s=>?_) _ _) fun r=>?_
         ·exact ay.i yK (ay.a ay.a6 fun u=>ay.a ay.a6 fun v=>ay.a (c _ _ _) fun b=>ay.i yK (ay.c rfl) (ay.c rfl)) (ay.c rfl)
         ·obtain⟨r,_⟩:=r;cases r <;> exact ay.c rfl
       |_=>exact ay.c rfl
     |_=>cases y <;> exact ay.c rfl
   | array i e =>
     cases x with
     | agg h =>
       cases y with
       | agg g =>
         simp only[kY];refine ay.a ay.k fun k=>ay.a (ay.f0 (fun f s=>?_) _) fun r=>?_
         ·exact ay.a ay.a6 fun u=>ay.a ay.a6 fun v=>ay.a (c _ _ _) fun b=>ay.i yK (ay.c rfl) (ay.c rfl)
         ·obtain⟨r,_⟩:=r;cases r <;> exact ay.c rfl
       |_=>exact ay.c rfl
     |_=>cases y <;> exact ay.c rfl
   |_=>exact ay.c rfl
def lO(k:Value)(a:TypeDesc):∀(c:List MapEntry) (i:Nat),
 Instr.findNow a (k.pm π) (c.map (MapEntry.pm π)) i=(Instr.findNow a k c i).map (Option.map fun x=>(x.1,x.2.pm π))
 |[],i=>by simp[Instr.findNow]
 | e :: c, i => by
   have d:Instr.sameNow a (k.pm π) (e.key.pm π)=Instr.sameNow a k e.key:=by
    cases a <;> cases k <;> cases f:e.key <;> simp[Instr.sameNow]
   simp only[yN,Instr.findNow,MapEntry.pm,d];cases Instr.sameNow a k _ with
   |none=>rfl
   | some b => cases b with
     |true=>rfl
     |false=>exact lO k a c _
include S
def ay.c0(c:TypeId)(k:Value):∀(a:List MapEntry) (i:Nat),
 ay P π (Option.map fun x=>(x.1,x.2.pm π)) (Instr.findAsking c (k.pm π) (a.map (MapEntry.pm π)) i) (Instr.findAsking c k a i)
 |[],i=>ay.c rfl
 | e :: a, i => by
   exact ay.a (ay.a1 S _ _ _ _) fun b=>ay.i yK (ay.c rfl) (ay.c0 c k a _)
def ay.b7(b:TypeId)(k:Value)(a:List MapEntry) :
 ay P π (Option.map fun x=>(x.1,x.2.pm π)) (Instr.findKey b (k.pm π) (a.map (MapEntry.pm π))) (Instr.findKey b k a):=by
 refine ay.a ay.e fun d=>?_;rw[lO];cases Instr.findNow d k a 0 with
 |none=>exact ay.c0 S b k a 0
 |some r=>exact ay.c rfl
def ay.y(b:Bool):∀(n:Nat) (t:TypeId) (x:Value),ay P π (fun x=>x) (Instr.checkKey b n t (x.pm π)) (Instr.checkKey b n t x)
 |0,_,_=>ay.b _
 | n + 1, t, x => by
   have c:=ay.y b n;refine ay.a ay.e fun d=>?_;cases d with
   | interface l =>
     cases x with
     | iface d x =>
       refine ay.a ay.o fun i=>ay.i yK ?_ (c _ _);have g : ay P π (fun x => x) (do let s ← Go.typeStr d; let r ← (Go.runtimePanic _ : Sem Unit); (fun _ : Unit => Instr.checkKey b n d _) r) (do let s ← Go.typeStr d; let r ← (Go.runtimePanic (.error ("hash of unhashable type " ++ s)) : Sem Unit); (fun _ : Unit => Instr.checkKey b n d x) r) :=
        ay.a ay.g2 fun s=>ay.a (hα:=fun x=>x) (ay.f S _) fun _=>c _ _
       exact ay.i yK (ay.a (hα:=fun x=>x) (ay.f S _) fun _=>g) g
     |nilIface=>exact ay.c rfl
     |_=>exact ay.d _
   | array j e =>
     cases x with
     | agg h =>
       simp only[kY];refine ay.a (ay.f0 (fun i s=>?_) _) fun _=>ay.c rfl;exact ay.a ay.k fun k=>ay.a ay.a6 fun v=>ay.a (c _ _) fun _=>ay.c rfl
     |_=>exact ay.d _
   | struct a =>
     cases x with
     | agg h =>
       simp only[kY];refine ay.a (ay.e9 (fun f s=>?_) _ _) fun _=>ay.c rfl;exact ay.i yK (ay.a ay.a6 fun v=>ay.a (c _ _) fun _=>ay.c rfl) (ay.c rfl)
     |_=>exact ay.d _
   |_=>exact ay.c rfl
def ay.j4{t:TypeId}{x i:Value}{g:Bool}:ay P π (Value.pm π) (Instr.lookup t (x.pm π) (i.pm π) g) (Instr.lookup t x i g):=by
 refine ay.a ay.e fun d=>?_;cases d with
 | map f h =>
   have j:∀e:Array _,ay P π (Value.pm π)
    (do Instr.checkKey (e.map (MapEntry.pm π)).isEmpty 10000 f (i.pm π)
        match <-Instr.findKey f (i.pm π) (e.map (MapEntry.pm π)).toList with
        |some (_,v)=>(do let y <-Pure.pure (v,true);(match y with|(v,a)=>Pure.pure (if g then .tuple #[v,.bool a] else v)))
        |none=>(do let z <-Go.zeroValue h;let y <-Pure.pure (z,false);(match y with|(v,a)=>Pure.pure (if g then .tuple #[v,.bool a] else v))):Sem _)
    (do Instr.checkKey e.isEmpty 10000 f i
        match <-Instr.findKey f i e.toList with
        |some (_,v)=>(do let y <-Pure.pure (v,true);(match y with|(v,a)=>Pure.pure (if g then .tuple #[v,.bool a] else v)))
        |none=>(do let z <-Go.zeroValue h;let y <-Pure.pure (z,false);(match y with|(v,a)=>Pure.pure (if g then .tuple #[v,.bool a] else v))):Sem _):=by
    intro e;have l:(e.map (MapEntry.pm π)).isEmpty=e.isEmpty:=by simp[Array.isEmpty]
    rw[l,yV];refine ay.a (ay.y S _ _ _ _) fun _=>ay.a (ay.b7 S _ _ _) fun r=>?_;have k:∀(v:Value) (b:Bool),ay P π (Value.pm π) (do let y <-Pure.pure (v.pm π,b);(match y with|(v,a)=>Pure.pure (if g then .tuple #[v,.bool a] else v))) (do let y <-Pure.pure (v,b);(match y with|(v,a)=>Pure.pure (if g then .tuple #[v,.bool a] else v))):=
     fun v b=>ay.a (hα:=fun y=>(y.1.pm π,y.2)) (ay.c rfl) fun y=>ay.c (by cases g <;> simp)
    cases r with
    |none=>exact ay.a (ay.p S) fun z=>k z _
    |some r=>exact k r.2 true
   cases x with
   | map r =>
     cases r with
     |none=>exact ay.a (ay.c ς) fun e=>j e
     | some r =>
       refine ay.a ay.m fun o=>?_;cases o with
       |map e c=>exact ay.a (ay.c rfl) fun e=>j e
       |_=>exact ay.d _
   |_=>exact ay.d _
 |_=>exact ay.d _
omit S in
def rm(a b:Option Addr):(a.map (Addr.pm π) == b.map (Addr.pm π))=(a == b):=by
 cases a <;> cases b <;> simp
omit S in
def uF(a b:Option Nat):(a.map π.f == b.map π.f)=(a == b):=by
 cases a <;> cases b <;> simp
omit S in
def uN:∀(n:Nat) (x y:Value),Instr.sameBits n (x.pm π) (y.pm π)=Instr.sameBits n x y:=by
 intro n;induction n with
 | zero =>
   intro x y;cases x <;> cases y <;> simp[Instr.sameBits,rm,uF]
 | succ n d =>
   intro x y;have f:∀b c:List _,((b.map (Value.pm π)).zip (c.map (Value.pm π))).all (fun x=>Instr.sameBits n x.1 x.2)=(b.zip c).all fun x=>Instr.sameBits n x.1 x.2:=by
    intro b;induction b with
    |nil=>simp
    |cons a b e=>intro c;cases c <;> simp_all
   cases x <;> cases y <;> simp[Instr.sameBits,d,rm,uF,f]
omit S in
def ay.b1{o n:Value}:ay P π (Value.pm π) (Instr.keyThatStays (o.pm π) (n.pm π)) (Instr.keyThatStays o n):=by
 unfold Instr.keyThatStays;rw[uN];refine ay.i yK (ay.c rfl) (ay.a ay.l fun c=>ay.c ?_);grind
omit S in
def oU(b:Array MapEntry)(i:Nat)(a:Value):((((b.map (MapEntry.pm π))[i]?).map (·.key)).getD (a.pm π))=((((b[i]?).map (·.key)).getD a)).pm π:=by
 rw[yw];cases b[i]? <;> simp[MapEntry.pm]
omit S in
def mQ(b:Array MapEntry)(i:Nat){f a:MapEntry->MapEntry}(h:∀e,a (e.pm π)=(f e).pm π):(b.map (MapEntry.pm π)).modify i a=(b.modify i f).map (MapEntry.pm π):=by
 grind
def ay.g5{t:TypeId}{m k v:Value}:ay P π (fun x=>x) (Instr.mapUpdate t (m.pm π) (k.pm π) (v.pm π)) (Instr.mapUpdate t m k v):=by
 refine ay.a ay.e fun d=>?_;cases d with
 | map f e =>
   cases m with
   | map r =>
     cases r with
     |none=>exact ay.f S _
     | some r =>
       refine ay.a ay.m fun o=>?_;cases o with
       | map c a =>
         simp only[Obj.pm,yV];refine ay.a (ay.y S _ _ _ _) fun _=>ay.a (ay.b7 S _ _ _) fun r=>?_;cases r with
         | none =>
           have:=ay.v (P:=P) (π:=π) (r:=r) (o:=.map (c.push { key:=k,val:=v,born:=a }) (a+1));simpa[Obj.pm,MapEntry.pm] using this
         | some x =>
           simp only[yp];rw[oU];refine ay.a ay.b1 fun b=>?_;rw[mQ c x.1 (f:=fun e=>{ e with key:=b,val:=v }) (fun e=>by simp[MapEntry.pm])];exact ay.v (o:=.map (c.modify x.1 fun e=>{ e with key:=b,val:=v }) _)
       |_=>exact ay.d _
   |_=>exact ay.d _
 |_=>exact ay.d _
def ay.i9{c:Array TypeId}{g:TypeId}{a:Array Value}:ay P π (Value.pm π) (Builtin.delete_ c g (a.map (Value.pm π))) (Builtin.delete_ c g a):=by
 unfold Builtin.delete_;rw[yw,yw];cases c[0]? with
 |none=>exact ay.d _
 |some l=>
 cases a[0]? with
 |none=>exact ay.d _
 |some m=>
 cases a[1]? with
 |none=>exact ay.d _
 |some k=>
 refine ay.a ay.e fun d=>?_;have h : ay P π (Value.pm π) (do let _ ← (Go.stuck _ : Sem Unit); Pure.pure (.tuple #[]) : Sem _) (do let _ ← (Go.stuck "delete: map expected" : Sem Unit); Pure.pure (.tuple #[]) : Sem _) := rfl;cases d with
 | map n e =>
   cases m with
   | map r =>
     cases r with
     |none=>exact ay.a (ay.y S _ _ _ _) fun _=>ay.c ς
     | some r =>
       refine ay.a ay.m fun o=>?_;cases o with
       | map b f =>
         simp only[Obj.pm,yV];have j:(b.map (MapEntry.pm π)).isEmpty=b.isEmpty:=by simp[Array.isEmpty]
         rw[j];refine ay.a (ay.y S _ _ _ _) fun _=>ay.a (ay.b7 S _ _ _) fun r=>?_;cases r with
         |none=>exact ay.a (ay.v (o:=.map b _)) fun _=>ay.c ς
         | some x =>
           have i:(b.map (MapEntry.pm π)).eraseIdxIfInBounds x.1=(b.eraseIdxIfInBounds x.1).map (MapEntry.pm π):=by
            unfold Array.eraseIdxIfInBounds
            ·grind
           simp only[yp];rw[i];exact ay.a (ay.v (o:=.map _ _)) fun _=>ay.c ς
       |_=>exact h
   |_=>exact h
 |_=>exact ay.d _
end
variable {x:Value}{args:Array Value}
section
variable {P:Program}{π:Perm}(S:dE P π){α β:Type}
def ay.range{t:TypeId}:ay P π (Value.pm π) (Instr.range t (x.pm π)) (Instr.range t x):=by
 refine ay.a ay.e fun d=>?_;have a:∀o:Obj,ay P π (Value.pm π) (do let r ←Go.newObj _;Pure.pure (.pointer (some ⟨r,0,none⟩)):Sem _) (do let r ←Go.newObj o;Pure.pure (.pointer (some ⟨r,0,none⟩)):Sem _):=fun o=>ay.a ay.c5 fun r=>ay.c ς;have b : ay P π (Value.pm π) (do let _ ← (Go.stuck _ : Sem Obj); Go.stuck "" : Sem _) (do let _ ← (Go.stuck "Range: string or map expected" : Sem Obj); Go.stuck "" : Sem _) := rfl;cases d with
 | string =>
   cases x with
   |string s=>exact ay.a (ay.c rfl) fun o=>a o
   |_=>exact b
 | map k e =>
   cases x with
   | map r =>
     cases r with
     |none=>exact ay.a (ay.c rfl) fun o=>a o
     | some m =>
       refine ay.a ay.m fun o=>?_;cases o with
       |map f c=>exact ay.a (ay.c rfl) fun o=>a o
       |_=>exact ay.a (ay.d _) fun o=>a o
   |_=>exact b
 |_=>cases x <;> exact b
def mN(a:Array MapEntry)(p:Nat->Bool):(a.map (MapEntry.pm π)).filter (fun e=>p e.born)=(a.filter fun e=>p e.born).map (MapEntry.pm π):=by
 rw[Array.filter_map];rfl
def ay.m0{b:Bool}{t:TypeId}:ay P π (Value.pm π) (Instr.next (x.pm π) b t) (Instr.next x b t):=by
 have f:ay P π (Value.pm π) (Pure.pure (.tuple #[.bool false]):Sem _) (Pure.pure (.tuple #[.bool false]):Sem _):=ay.c ς;cases x with
 | pointer a =>
   cases a with
   |none=>exact ay.d _
   | some a =>
     obtain⟨r,q,B⟩:=a;cases q with
     |succ n=>exact ay.d _
     | zero =>
       refine ay.a ay.m fun o=>?_;cases o with
       | stringIter s y =>
         cases b with
         |false=>exact ay.d _
         |true=>exact ay.i yK (ay.a (ay.v (o:=.stringIter s _)) fun _=>ay.c ς) f
       | mapIter m d h j =>
         cases b with
         |true=>cases m <;> exact ay.d _
         | false =>
           cases m with
           |none=>exact f
           | some m =>
             refine ay.a ay.m fun o=>?_;cases o with
             | map k u =>
               simp only[Obj.pm];have w:(k.map (MapEntry.pm π)).isEmpty=k.isEmpty:=by simp[Array.isEmpty]
               have z:(k.map (MapEntry.pm π)).all (fun e=>decide (e.born≥j))=k.all fun e=>decide (e.born≥j):=by
                rw[Array.all_map];rfl
               rw[w,z];refine ay.n yK (ay.b _) ?_;rw[mN k (fun b=>!h.contains b)];generalize k.filter (fun e=>!h.contains _)=g;rw[mN g (fun b=>decide (b<d)),mN g (fun b=>decide _)];generalize g.filter (fun x=>decide (x.born<d))=c;generalize g.filter (fun x=>decide (x.born≥d))=l;have A:(c.map (MapEntry.pm π)).isEmpty=c.isEmpty:=by simp[Array.isEmpty]
               have v:(if (c.map (MapEntry.pm π)).isEmpty=true then #[none] else #[])++Array.map some (c.map (MapEntry.pm π)++l.map (MapEntry.pm π))=((if c.isEmpty=true then #[none] else #[])++Array.map some (c++l)).map (Option.map (MapEntry.pm π)):=by
                rw[A];cases c.isEmpty <;> simp[Function.comp_def]
               rw[v];generalize (if c.isEmpty=true then #[none] else #[])++Array.map some _=p;rw[I1];refine ay.a ay.l fun i=>?_;rw[yw];cases p[i]? with
               |none=>exact ay.d _
               | some o =>
                 cases o with
                 |none=>exact f
                 |some e=>exact ay.a (ay.v (o:=.mapIter (some m) _ _ _)) fun _=>ay.c (by simp[MapEntry.pm])
             |_=>exact ay.d _
       |_=>cases b <;> exact ay.d _
 |_=>exact ay.d _
def ay.k9:ay P π (Value.pm π) (Instr.entry (x.pm π)) (Instr.entry x):=by
 cases x with
 | pointer a =>
   cases a with
   |none=>exact ay.d _
   | some a =>
     obtain⟨r,f,k⟩:=a;cases f with
     |succ n=>exact ay.d _
     | zero =>
       refine ay.a ay.m fun o=>?_;cases o with
       | mapIter m d c j =>
         cases m with
         |none=>exact ay.d _
         | some m =>
           simp only[Obj.pm,yp];cases c.back? with
           |none=>exact ay.d _
           | some b =>
             refine ay.a ay.m fun o=>?_;cases o with
             | map g h =>
               refine ay.n yK (ay.b _) ?_;have i:(g.map (MapEntry.pm π)).find? (fun e=>e.born == b)=(g.find? fun e=>e.born == b).map (MapEntry.pm π):=by
                rw[Array.find?_map];rfl
               rw[i];cases g.find? (fun e=>e.born == b) with
               |none=>exact ay.b _
               |some e=>exact ay.c (by simp[MapEntry.pm])
             |_=>exact ay.d _
       |_=>exact ay.d _
 |_=>exact ay.d _
def ay.k8(S:dE P π){h:Array TypeId}{i:TypeId}:ay P π (Value.pm π) (Builtin.clear_ h i (args.map (Value.pm π))) (Builtin.clear_ h i args):=by
 unfold Builtin.clear_;rw[yw];cases h[0]? with
 |none=>exact ay.d _
 |some t=>
 cases args[0]? with
 |none=>exact ay.d _
 |some x=>
 refine ay.a ay.e fun d=>?_;have g:ay P π (Value.pm π) (Pure.pure (.tuple #[]):Sem Value) (Pure.pure (.tuple #[]):Sem Value):=ay.c ς;have j : ay P π (Value.pm π) (do let _ ← (Go.stuck "clear: map or slice expected" : Sem Unit); Pure.pure (.tuple #[]) : Sem Value) (do let _ ← (Go.stuck "clear: map or slice expected" : Sem Unit); Pure.pure (.tuple #[]) : Sem Value) := rfl;cases x with
 | map r =>
   cases r with
   |none=>cases d <;> exact g
   | some r =>
     have k : ay P π (Value.pm π) (do match ← Go.getObj (π.f r) with | .map _ b => (do let _ ← Go.setObj (π.f r) (.map #[] b); Pure.pure (.tuple #[])) | _ => (do let _ ← (Go.stuck "clear: map expected" : Sem Unit); Pure.pure (.tuple #[])) : Sem _)
      (do match ← Go.getObj r with | .map _ b => (do let _ ← Go.setObj r (.map #[] b); Pure.pure (.tuple #[])) | _ => (do let _ ← (Go.stuck "clear: map expected" : Sem Unit); Pure.pure (.tuple #[])) : Sem Value) := by
      refine ay.a ay.m fun o=>?_;cases o with
      |map l c=>exact ay.a (by have:=ay.v (P:=P) (π:=π) (r:=r) (o:=.map #[] c);simpa[Obj.pm] using this) fun _=>g
      |_=>rfl
     cases d <;> exact k
 | slice a n c =>
   cases a with
   |none=>cases d <;> exact g
   | some a =>
     cases n with
     |zero=>cases d <;> exact g
     | succ n =>
       cases d with
       | slice e =>
         refine ay.a (ay.p S) fun z=>?_;rw[ed,iU,yV];exact ay.a (ay.w _ _) fun _=>g
       |_=>exact j
 |_=>cases d <;> exact j
def ay.m4{c:Array TypeId}{f:TypeId}:ay P π (Value.pm π) (Builtin.len_ c f (args.map (Value.pm π))) (Builtin.len_ c f args):=by
 unfold Builtin.len_;rw[yw];cases c[0]? with
 |none=>exact ay.d _
 |some t=>
 cases args[0]? with
 |none=>exact ay.d _
 |some x=>
 refine ay.a ay.e fun d=>?_;cases d with
 |string=>cases x <;> simp <;> first|exact ay.c ς|exact ay.d _
 |array n e=>exact ay.c ς
 | pointer g =>
   refine ay.a ay.e fun d=>?_;cases d <;> first|exact ay.c ς|exact ay.d _
 |slice e=>cases x <;> simp <;> first|exact ay.c ς|exact ay.d _
 | map k e =>
   cases x with
   | map r =>
     cases r with
     |none=>exact ay.c ς
     | some r =>
       exact ay.a ay.m fun o=>by cases o <;> first|exact ay.c ς|exact ay.d _
   |_=>exact ay.d _
 | chan a b =>
   cases x with
   | chan r =>
     cases r with
     |none=>exact ay.c ς
     | some r =>
       exact ay.a ay.m fun o=>by cases o <;> first|exact ay.c ς|exact ay.d _
   |_=>exact ay.d _
 |_=>cases x <;> exact ay.d _
end
section
variable {P:Program}{π:Perm}{α β:Type}
def ay.e2{a:BinOp}{k:IntKind}{x y:Int}:ay P π (Value.pm π) (Op.intArith a k x y) (Op.intArith a k x y):=by
 cases a <;> first|exact ay.c ς|exact ay.d _
def ay.g0{a:BinOp}{k:IntKind}{x y:Int}:ay P π (Value.pm π) (Op.intBits a k x y) (Op.intBits a k x y):=by
 cases a <;> first|exact ay.c ς|exact ay.d _
def ay.j1{a:BinOp}{x y:Int}:ay P π (Value.pm π) (Op.intCmp a x y) (Op.intCmp a x y):=by
 cases a <;> first|exact ay.c ς|exact ay.d _
def ay.c1{a:BinOp}{k:FloatKind}{x y:Nat}:ay P π (Value.pm π) (Op.floatArith a k x y) (Op.floatArith a k x y):=by
 have b:∀r:Option Nat,ay P π (Value.pm π) (match r with|some r=>Pure.pure (.float k r)|none=>(do Pure.pure (.float k (<-Go.choose (.nanBits k x y)))):Sem _) (match r with|some r=>Pure.pure (.float k r)|none=>(do Pure.pure (.float k (<-Go.choose (.nanBits k x y)))):Sem _):=by
  intro r;cases r with
  |none=>exact ay.a ay.l fun _=>ay.c ς
  |some r=>exact ay.c ς
 cases a <;> first|exact ay.a (ay.c rfl) fun r=>b r|exact ay.a (ay.d _) fun r=>b r
def ay.e1{a:BinOp}{k:FloatKind}{x y:Nat}:ay P π (Value.pm π) (Op.floatCmp a k x y) (Op.floatCmp a k x y):=by
 cases a <;> first|exact ay.c ς|exact ay.d _
def ay.u{s d:FloatKind}{x:Nat}:ay P π (Value.pm π) (Conv.floatToFloat s x d) (Conv.floatToFloat s x d):=by
 refine ay.i yK (ay.c ς) ?_;split
 ·exact ay.a ay.l fun _=>ay.c ς
 ·exact ay.c ς
 ·exact ay.i yK (ay.a ay.l fun _=>ay.c ς) (ay.c ς)
def ay.g{op:BinOp}{k:FloatKind}{x y:Nat}:ay P π (fun x=>x) (Op.Complex.arith op k x y) (Op.Complex.arith op k x y):=
 ay.a ay.c1 fun v=>by cases v <;> first|exact ay.c rfl|exact ay.d _
def ay.c8{op:BinOp}{k:FloatKind}{x y:Nat}:ay P π (fun x=>x) (Op.Complex.cmp op k x y) (Op.Complex.cmp op k x y):=
 ay.a ay.e1 fun _=>ay.c3
def ay.q{s d:FloatKind}{x:Nat}:ay P π (fun x=>x) (Op.Complex.conv s x d) (Op.Complex.conv s x d):=by
 unfold Op.Complex.conv;exact ay.i yK (ay.c rfl) (ay.a ay.u fun v=>by cases v <;> first|exact ay.c rfl|exact ay.d _)
def ay.g1{a b c d:Nat}:ay P π (fun x=>x) (Op.Complex.product a b c d) (Op.Complex.product a b c d):=
 ay.a ay.g fun _=>ay.a ay.g fun _=>ay.a ay.g fun _=>ay.a ay.g fun _=>ay.a ay.g fun _=>ay.a ay.g fun _=>ay.c rfl
def ay.c9{s a b c d:Nat}:ay P π (fun x=>x) (Op.Complex.corrected s a b c d) (Op.Complex.corrected s a b c d):=
 ay.a ay.g fun _=>ay.a ay.g fun _=>ay.a ay.g fun _=>ay.a ay.g fun _=>ay.a ay.g fun _=>ay.a ay.g fun _=>ay.a ay.g fun _=>ay.a ay.g fun _=>ay.c rfl
def ay.e4{a b c d:Nat}:ay P π (fun x=>x) (Op.Complex.quotient a b c d) (Op.Complex.quotient a b c d):=by
 refine ay.a ay.c8 fun t=>?_;have f:∀e:Nat × Nat,ay P π (fun x=>x) _ _:=fun e=>ay.a (ay.c8 (op:=.eql) (k:=.f64) (x:=c) (y:=0)) fun u=>ay.a (ay.c8 (op:=.eql) (k:=.f64) (x:=d) (y:=0)) fun v=>
  ay.i (c':=(!(Op.Complex.isNaN e.1 && Op.Complex.isNaN e.2))=true) yK (ay.c (a:=e) rfl)
   (ay.i (c':=((u && v) && (!Op.Complex.isNaN a || !Op.Complex.isNaN b))=true) yK
    (ay.a (ay.g (op:=.mul) (k:=.f64) (x:=Op.Complex.copysign Op.Complex.inf c) (y:=a)) fun p=>ay.a (ay.g (op:=.mul) (k:=.f64) (x:=Op.Complex.copysign Op.Complex.inf c) (y:=b)) fun q=>ay.c (a:=(p,q)) rfl)
    (ay.i (c':=((Op.Complex.isInf a || Op.Complex.isInf b) && Op.Complex.isFinite c && Op.Complex.isFinite d)=true) yK
     (ay.c9 (s:=Op.Complex.inf) (a:=Op.Complex.inf2one a) (b:=Op.Complex.inf2one b) (c:=c) (d:=d))
     (ay.i (c':=((Op.Complex.isInf c || Op.Complex.isInf d) && Op.Complex.isFinite a && Op.Complex.isFinite b)=true) yK
      (ay.c9 (s:=0) (a:=a) (b:=b) (c:=Op.Complex.inf2one c) (d:=Op.Complex.inf2one d)) (ay.c (a:=e) rfl))))
 refine ay.i yK ?_ ?_
 ·exact ay.a ay.g fun _=>ay.a ay.g fun _=>ay.a ay.g fun _=>ay.a ay.g fun _=>ay.a ay.g fun _=>ay.a ay.g fun _=>ay.a ay.g fun _=>ay.a ay.g fun _=>ay.a ay.g fun _=>ay.a (ay.c rfl) fun e=>f e
 ·exact ay.a ay.g fun _=>ay.a ay.g fun _=>ay.a ay.g fun _=>ay.a ay.g fun _=>ay.a ay.g fun _=>ay.a ay.g fun _=>ay.a ay.g fun _=>ay.a ay.g fun _=>ay.a ay.g fun _=>ay.a (ay.c rfl) fun e=>f e
def ay.b9{a:BinOp}{x y:ByteArray}:ay P π (Value.pm π) (Op.stringOp a x y) (Op.stringOp a x y):=by
 unfold Op.stringOp;cases a <;> first|exact ay.c ς|exact ay.d _|exact ay.i yK (ay.b _) (ay.c ς)
def ay.l4{c:UnOp}{x:Value}:ay P π (Value.pm π) (Op.unary c (x.pm π)) (Op.unary c x):=by
 cases x with
 |pointer a=>cases a <;> cases c <;> first|exact ay.b _|exact ay.d _
 |int k n=>simp only[eF];cases c <;> simp only[Op.unary] <;> first|exact ay.e2|exact ay.g0|exact ay.d _
 |float k n=>cases c <;> first|exact ay.c ς|exact ay.d _
 |complex k n m=>cases c <;> first|exact ay.c ς|exact ay.d _
 |bool b=>cases c <;> first|exact ay.c ς|exact ay.d _
 |_=>cases c <;> exact ay.d _
def ay.g3{e:BinOp}{k:FloatKind}{a b c d:Nat}:ay P π (Value.pm π) (Op.complexOp e k a b c d) (Op.complexOp e k a b c d):=by
 cases e with
 |add=>exact ay.a ay.g fun _=>ay.a ay.g fun _=>ay.c ς
 |sub=>exact ay.a ay.g fun _=>ay.a ay.g fun _=>ay.c ς
 |mul=>unfold Op.complexOp;exact ay.a ay.q fun _=>ay.a ay.q fun _=>ay.a ay.q fun _=>ay.a ay.q fun _=>ay.i yK (ay.a ay.g1 fun _=>ay.a ay.q fun _=>ay.a ay.q fun _=>ay.c (iT ..).symm) (ay.a ay.e4 fun _=>ay.a ay.q fun _=>ay.a ay.q fun _=>ay.c (iT ..).symm)
 |quo=>unfold Op.complexOp;exact ay.a ay.q fun _=>ay.a ay.q fun _=>ay.a ay.q fun _=>ay.a ay.q fun _=>ay.i yK (ay.a ay.g1 fun _=>ay.a ay.q fun _=>ay.a ay.q fun _=>ay.c (iT ..).symm) (ay.a ay.e4 fun _=>ay.a ay.q fun _=>ay.a ay.q fun _=>ay.c (iT ..).symm)
 |eql=>exact ay.a ay.c8 fun _=>ay.a ay.c8 fun _=>ay.c ς
 |neq=>exact ay.a ay.c8 fun _=>ay.a ay.c8 fun _=>ay.c ς
 |_=>exact ay.d _
end
section
variable {P:Program}{π:Perm}(S:dE P π){α β:Type}
include S
def ay.j2{a:BinOp}{k:IntKind}{x y:Int}:ay P π (Value.pm π) (Op.intDiv a k x y) (Op.intDiv a k x y):=by
 refine ay.i yK (ay.f S _) ?_;cases a <;> first|exact ay.c ς|exact ay.d _
def ay.i5{a:BinOp}{k b:IntKind}{x y:Int}:ay P π (Value.pm π) (Op.shift a k x b y) (Op.shift a k x b y):=by
 refine ay.i yK (ay.f S _) ?_;cases a <;> first|exact ay.c ς|exact ay.d _
omit S in
def ay.t{ts:Array TypeId}{t:TypeId}{x y:Value}:ay P π (Value.pm π) (Builtin.unsafeAdd_ ts t #[x.pm π,y.pm π]) (Builtin.unsafeAdd_ ts t #[x,y]):=by
 cases x with
 | pointer a =>
   refine ay.a ay.b2 fun n=>?_;have c:ay P π (Value.pm π)
    (match (generalizing := false) a.map (Addr.pm π) with | some a => (do match ← Go.shape a.block with | some (e, b) => (do let p ← program; match cellAtBytes p p.depth e (b / p.cellsOf e) a.off n with | some off => Pure.pure (.pointer (some { a with off })) | none => Go.unsupported (.unsafePointer "Add")) | _ => Go.unsupported (.unsafePointer "Add")) | _ => Go.unsupported (.unsafePointer "Add") : Sem _)
    (match (generalizing := false) a with | some a => (do match ← Go.shape a.block with | some (e, b) => (do let p ← program; match cellAtBytes p p.depth e (b / p.cellsOf e) a.off n with | some off => Pure.pure (.pointer (some { a with off })) | none => Go.unsupported (.unsafePointer "Add")) | _ => Go.unsupported (.unsafePointer "Add")) | _ => Go.unsupported (.unsafePointer "Add") : Sem Value) := by
    cases a with
    |none=>exact ay.b _
    | some a =>
      refine ay.a ay.a0 fun o=>?_;cases o with
      |none=>exact ay.b _
      | some x =>
        refine ay.prog ?_;simp only[eR];cases cellAtBytes P _ x.1 _ _ n with
        |none=>exact ay.b _
        |some o=>exact ay.c ς
   refine ay.i yK ?_ (ay.n yK (ay.b _) c);cases a with
   |none=>exact ay.b _
   |some a=>exact ay.a ay.g9 fun o=>ay.n ς (ay.b _) (ay.c ς)
 |_=>exact ay.d _
omit S in
def ay.b8{t:TypeId}{x y:Value}:ay P π (Value.pm π) (Go.movedNumber t (x.pm π) (y.pm π)) (Go.movedNumber t x y):=by
 refine ay.a ay.e fun d=>ay.n yK (ay.b _) ?_;cases x with
 | pointer a =>
   cases a with
   |none=>exact ay.t
   | some n =>
     refine ay.a ay.h fun c=>?_;obtain⟨a,l⟩:=c;refine ay.a (by have:=ay.t (P:=P) (π:=π) (ts:=#[]) (t:=t) (x:=.pointer (some a)) (y:=y);simpa using this) fun v=>?_;cases v with
     |pointer b=>cases b <;> first|exact ay.h0|exact ay.c rfl
     |_=>exact ay.c rfl
 |_=>exact ay.t
omit S in
def ay.d9{t:TypeId}{x y:Value}:ay P π (Value.pm π) (Go.movedPointer t (x.pm π) (y.pm π)) (Go.movedPointer t x y):=by
 unfold Go.movedPointer;cases x with
 | pointer a =>
   cases a with
   |none=>exact ay.t
   | some n =>
     simp only[bh,yp];exact ay.a ay.e3 fun o=>ay.n ς (ay.b _) (by have:=ay.t (P:=P) (π:=π) (ts:=#[]) (t:=t) (x:=.pointer (some n)) (y:=y);simpa using this)
 |_=>exact ay.t
def ay.d8{a b:Addr}:ay P π (fun x=>x) (Op.twoPlaces (a.pm π) (b.pm π)) (Op.twoPlaces a b):=by
 refine ay.prog ?_;have c:=zN S a.block;exact ay.n (by simp;omega) (ay.b _) (ay.a ay.a4 fun _=>ay.a ay.a4 fun _=>ay.c rfl)
def ay.h4{k:IntKind}{a b:Addr}:ay P π (Value.pm π) (Op.addrSub k (a.pm π) (b.pm π)) (Op.addrSub k a b):=ay.a (ay.d8 S) fun _=>ay.c ς
def ay.b4{c:BinOp}{a b:Addr}:ay P π (Value.pm π) (Op.addrCmp c (a.pm π) (b.pm π)) (Op.addrCmp c a b):=
 ay.a (ay.d8 S) fun _=>by cases c <;> first|exact ay.c ς|exact ay.b _
omit S in
def ay.c6{k:IntKind}{a:Addr}{n:Int}:ay P π (Value.pm π) (Op.addrMod k (a.pm π) n) (Op.addrMod k a n):=by
 refine ay.a ay.a0 fun o=>?_;cases o with
 |none=>exact ay.b _
 |some x=>exact ay.a ay.o fun i=>ay.n yK (ay.b _) (ay.a ay.a4 fun b=>ay.c ς)
end
section
variable {P:Program}{π:Perm}{α β γ δ:Type}
def ay.m1{h:γ->δ}{t:TypeId}{f:TypeDesc->Sem γ}{f':TypeDesc->Sem δ}(hf:∀d,P.underlying t=some d->ay P π h (f' d) (f d)):ay P π h (Go.underlying t >>= f') (Go.underlying t >>= f):=by
 cases hd:P.underlying t with
 |none=>simp[ay,Go.underlying,program,Bind.bind,Sem.bind,Sem.bz,hd,Go.stuck,Sem.bN,Halt.pm,Halt.er]
 | some d =>
   have:=hf d hd;simpa[ay,Go.underlying,program,Bind.bind,Sem.bind,Sem.bz,hd,Pure.pure] using this
def ay.d5{t:TypeId}{s:ByteArray}:ay P π (Value.pm π) (Conv.stringToBytes t s) (Conv.stringToBytes t s):=by
 unfold Conv.stringToBytes;refine ay.a ay.l fun cap=>?_;have:=ay.b0 (P:=P) (π:=π) (t:=t) (cs:=(s.data.map fun b=>(Value.int .u8 b.toNat))++Array.replicate (cap - s.size) (.int .u8 0));simp only[IY,Array.map_map,Function.comp_def,eF,Array.map_replicate] at this;exact ay.a this fun a=>ay.a ay.a9 fun _=>ay.c ς
def lR(s:ByteArray):∀(n i:Nat) (acc:Array Value),(Conv.runesFrom s n i acc).map (Value.pm π)=Conv.runesFrom s n i (acc.map (Value.pm π))
 |0,_,_=>rfl
 | n + 1, i, acc => by
   unfold Conv.runesFrom;split
   ·rw[lR s n];simp
   ·rfl
def ay.d6{t:TypeId}{s:ByteArray}:ay P π (Value.pm π) (Conv.stringToRunes t s) (Conv.stringToRunes t s):=by
 unfold Conv.stringToRunes;refine ay.a ay.l fun cap=>?_;have:=ay.b0 (P:=P) (π:=π) (t:=t) (cs:=Conv.runesFrom s s.size 0 #[]++Array.replicate (cap - (Conv.runesFrom s s.size 0 #[]).size) (.int .i32 0));simp only[IY,lR,eF,Array.map_replicate,Fj,Cx] at this;exact ay.a this fun a=>ay.c ς
def ay.f9{σ:Type}{f f':Value->σ->Sem (ForInStep σ)}(hf:∀i s,ay P π (fun x=>x) (f' (i.pm π) s) (f i s))(l:Array Value)(s:σ):ay P π (fun x=>x) (ForIn.forIn (l.map (Value.pm π)) s f') (ForIn.forIn l s f):=by
 rw[<-Lh,<-Lh,yV];generalize l.toList=l;induction l generalizing s with
 |nil=>simp only[Cx,List.forIn_nil];exact ay.c rfl
 | cons x l ih =>
   simp only[yN,List.forIn_cons];refine ay.a (hf x s) fun r=>?_;cases r with
   |done a=>exact ay.c rfl
   |yield a=>exact ih a
def ay.c7{x:Value}:ay P π (Value.pm π) (Conv.bytesToString (x.pm π)) (Conv.bytesToString x):=by
 unfold Conv.bytesToString;cases x with
 | slice a l c =>
   cases a with
   |none=>exact ay.c ς
   | some a =>
     refine ay.a ay.a5 fun cs=>ay.a (ay.f9 (fun v s=>?_) _ _) fun s=>ay.c ς;cases v with
     |int k n=>cases k <;> first|exact ay.c rfl|exact ay.a (hα:=fun x=>x) (ay.d _) fun _=>ay.c rfl|exact Eqv.s _
     |_=>exact ay.d _
 |_=>exact ay.d _
def ay.d3{x:Value}:ay P π (Value.pm π) (Conv.runesToString (x.pm π)) (Conv.runesToString x):=by
 unfold Conv.runesToString;cases x with
 | slice a l c =>
   cases a with
   |none=>exact ay.c ς
   | some a =>
     refine ay.a ay.a5 fun cs=>ay.a (ay.f9 (fun v s=>?_) _ _) fun s=>ay.c ς;cases v with
     |int k n=>cases k <;> first|exact ay.c rfl|exact ay.d _
     |_=>exact ay.d _
 |_=>exact ay.d _
def ay.f8{s:FloatKind}{b:Nat}{d:IntKind}:ay P π (Value.pm π) (Conv.floatToInt s b d) (Conv.floatToInt s b d):=by
 unfold Conv.floatToInt;have ha:ay P π (Value.pm π) (do Pure.pure (.int d (d.wrap (<-Go.choose (.floatToInt s b d)))):Sem Value) (do Pure.pure (.int d (d.wrap (<-Go.choose (.floatToInt s b d)))):Sem Value):=ay.a ay.l fun _=>ay.c ς;cases (s.decode b).toInt .zero with
 |none=>exact ha
 |some n=>exact ay.i yK (ay.c ς) ha
def ay.b6{s d:FloatKind}{a b:Nat}:ay P π (Value.pm π) (Conv.complexToComplex s a b d) (Conv.complexToComplex s a b d):=by
 unfold Conv.complexToComplex;refine ay.a ay.u fun v=>?_;cases v with
 | float k n =>
   refine ay.a ay.u fun v=>?_;cases v with
   |float k n=>exact ay.c ς
   |_=>exact ay.d _
 |_=>exact ay.d _
def Dq(P:Program)(src dst:TypeId):Prop:=P.underlying src≠some .unsafePointer/\P.underlying dst≠some .unsafePointer
def ay.h5{src dst:TypeId}{x:Value}(ok:Dq P src dst):ay P π (Value.pm π) (Go.convert src dst (x.pm π)) (Go.convert src dst x):=by
 unfold Go.convert;refine ay.m1 fun s hs=>ay.m1 fun d hd=>?_;have h1:s≠.unsafePointer:=fun e=>ok.1 (e▸hs);have h2:d≠.unsafePointer:=fun e=>ok.2 (e▸hd);cases d with
 |unsafePointer=>exact absurd rfl h2
 | int k =>
   cases x with
   |int k' n=>exact ay.c ς
   |float k' n=>exact ay.f8
   |pointer a=>cases a <;> cases s <;> first|exact absurd rfl h1|exact ay.b _
   |_=>cases s <;> first|exact absurd rfl h1|exact ay.b _
 | float k =>
   cases x with
   |int k' n=>exact ay.c ς
   |float k' n=>exact ay.u
   |pointer a=>cases a <;> cases s <;> first|exact absurd rfl h1|exact ay.b _
   |_=>cases s <;> first|exact absurd rfl h1|exact ay.b _
 | complex k =>
   cases x with
   |complex k' a b=>exact ay.b6
   |pointer a=>cases a <;> cases s <;> first|exact absurd rfl h1|exact ay.b _
   |_=>cases s <;> first|exact absurd rfl h1|exact ay.b _
 | string =>
   have hsl : ∀ (e : TypeId) (x : Value), ay P π (Value.pm π) (do match ← Go.underlying e with | .int .u8 => Conv.bytesToString (x.pm π) | .int .i32 => Conv.runesToString (x.pm π) | _ => Go.stuck "Convert: a slice of what to string?" : Sem Value)
    (do match ← Go.underlying e with | .int .u8 => Conv.bytesToString x | .int .i32 => Conv.runesToString x | _ => Go.stuck "Convert: a slice of what to string?" : Sem Value) := fun e x =>
    ay.a ay.e fun d=>by
     cases d with
     |int k=>cases k <;> first|exact ay.c7|exact ay.d3|exact ay.d _
     |_=>exact ay.d _
   cases x with
   |int k' n=>exact ay.c ς
   |string s=>exact ay.c ς
   |pointer a=>cases a <;> cases s <;> first|exact absurd rfl h1|exact ay.b _|exact hsl _ (.pointer _)
   |bool b=>cases s <;> first|exact absurd rfl h1|exact ay.b _|exact hsl _ (.bool _)
   |float b c=>cases s <;> first|exact absurd rfl h1|exact ay.b _|exact hsl _ (.float _ _)
   |complex b c d=>cases s <;> first|exact absurd rfl h1|exact ay.b _|exact hsl _ (.complex _ _ _)
   |slice b c d=>cases s <;> first|exact absurd rfl h1|exact ay.b _|exact hsl _ (.slice _ _ _)
   |map b=>cases s <;> first|exact absurd rfl h1|exact ay.b _|exact hsl _ (.map _)
   |chan b=>cases s <;> first|exact absurd rfl h1|exact ay.b _|exact hsl _ (.chan _)
   |func b c d=>cases s <;> first|exact absurd rfl h1|exact ay.b _|exact hsl _ (.func _ _ _)
   |nilFunc=>cases s <;> first|exact absurd rfl h1|exact ay.b _|exact hsl _ .nilFunc
   |iface b c=>cases s <;> first|exact absurd rfl h1|exact ay.b _|exact hsl _ (.iface _ _)
   |nilIface=>cases s <;> first|exact absurd rfl h1|exact ay.b _|exact hsl _ .nilIface
   |agg b=>cases s <;> first|exact absurd rfl h1|exact ay.b _|exact hsl _ (.agg _)
   |tuple b=>cases s <;> first|exact absurd rfl h1|exact ay.b _|exact hsl _ (.tuple _)
 | slice e =>
   cases x with
   | string t =>
     refine ay.a ay.e fun d=>?_;cases d with
     |int k=>cases k <;> first|exact ay.d5|exact ay.d6|exact ay.d _
     |_=>exact ay.d _
   | slice a l c =>
     cases a with
     |none=>cases s <;> first|exact absurd rfl h1|exact ay.b _
     | some a =>
       simp only[jA,yp];cases s with
       |unsafePointer=>exact absurd rfl h1
       | slice e' =>
         refine ay.a ay.e fun d=>?_;cases src == dst with
         |false=>exact ay.b _
         | true =>
           cases d with
           |int k=>cases k <;> first|exact ay.a ay.a9 fun _=>ay.c ς|exact ay.b _
           |_=>exact ay.b _
       |_=>exact ay.b _
   |pointer a=>cases a <;> cases s <;> first|exact absurd rfl h1|exact ay.b _
   |_=>cases s <;> first|exact absurd rfl h1|exact ay.b _
 | _ =>
   cases x with
   |pointer a=>cases a <;> cases s <;> first|exact absurd rfl h1|exact ay.b _
   |_=>cases s <;> first|exact absurd rfl h1|exact ay.b _
end
section
variable {P:Program}{π:Perm}(S:dE P π){α β:Type}
include S
def ay.k6{op:BinOp}{t:TypeId}{a b:Option Addr}:ay P π (Value.pm π) (Go.binOp op t (.pointer (a.map (Addr.pm π))) (.pointer (b.map (Addr.pm π)))) (Go.binOp op t (.pointer a) (.pointer b)):=by
 unfold Go.binOp;have he:=ay.a1 S Op.maxDepth t (.pointer a) (.pointer b);simp only[bh] at he;cases op with
 |eql=>exact ay.a he fun _=>ay.c ς
 |neq=>exact ay.a he fun _=>ay.c ς
 |sub=>cases a <;> cases b <;> first|exact ay.b _|exact ay.a ay.h fun _=>ay.a ay.h fun _=>ay.h4 S
 |lss=>cases a <;> cases b <;> first|exact ay.b _|exact ay.a ay.h fun _=>ay.a ay.h fun _=>ay.b4 S
 |leq=>cases a <;> cases b <;> first|exact ay.b _|exact ay.a ay.h fun _=>ay.a ay.h fun _=>ay.b4 S
 |gtr=>cases a <;> cases b <;> first|exact ay.b _|exact ay.a ay.h fun _=>ay.a ay.h fun _=>ay.b4 S
 |geq=>cases a <;> cases b <;> first|exact ay.b _|exact ay.a ay.h fun _=>ay.a ay.h fun _=>ay.b4 S
 |_=>cases a <;> cases b <;> exact ay.b _
end
section
variable {P:Program}{π:Perm}(S:dE P π){α β:Type}
include S
def ay.k5{op:BinOp}{t:TypeId}{a:Option Addr}{k:IntKind}{n:Int}:ay P π (Value.pm π) (Go.binOp op t (.pointer (a.map (Addr.pm π))) (.int k n)) (Go.binOp op t (.pointer a) (.int k n)):=by
 unfold Go.binOp;have he:=ay.a1 S Op.maxDepth t (.pointer a) (.int k n);have hm:=fun m=>ay.b8 (P:=P) (π:=π) (t:=t) (x:=.pointer a) (y:=.int k m);have hp:=ay.d9 (P:=P) (π:=π) (t:=t) (x:=.pointer a) (y:=.int k n);simp only[bh,eF] at he hm hp;cases op with
 |eql=>exact ay.a he fun _=>ay.c ς
 |neq=>exact ay.a he fun _=>ay.c ς
 |add=>exact ay.a ay.e fun d=>ay.i yK hp (hm n)
 |sub=>cases a <;> exact hm (-n)
 |rem=>cases a <;> first|exact ay.b _|exact ay.a ay.h fun _=>ay.c6
 |and=>cases a <;> first|exact ay.b _|exact ay.a ay.h fun _=>ay.c6
 |_=>cases a <;> exact ay.b _
def ay.k3{op:BinOp}{t:TypeId}{a:Option Addr}{k:IntKind}{n:Int}:ay P π (Value.pm π) (Go.binOp op t (.int k n) (.pointer (a.map (Addr.pm π)))) (Go.binOp op t (.int k n) (.pointer a)):=by
 unfold Go.binOp;have he:=ay.a1 S Op.maxDepth t (.int k n) (.pointer a);have hm:=ay.b8 (P:=P) (π:=π) (t:=t) (x:=.pointer a) (y:=.int k n);simp only[bh,eF] at he hm;cases op with
 |eql=>exact ay.a he fun _=>ay.c ς
 |neq=>exact ay.a he fun _=>ay.c ς
 |add=>exact hm
 |and=>cases a <;> first|exact ay.b _|exact ay.a ay.h fun _=>ay.c6
 |_=>cases a <;> exact ay.b _
def ay.k2{op:BinOp}{t:TypeId}{k k':IntKind}{n m:Int}:ay P π (Value.pm π) (Go.binOp op t (.int k n) (.int k' m)) (Go.binOp op t (.int k n) (.int k' m)):=by
 unfold Go.binOp;cases op with
 |shl=>exact ay.i5 S
 |shr=>exact ay.i5 S
 |_=>refine ay.i yK (ay.d _) ?_;first|exact ay.e2|exact ay.j2 S|exact ay.g0|exact ay.j1
def ay.k4{op:BinOp}{t:TypeId}{x y:Value}:ay P π (Value.pm π) (Go.binOp op t (x.pm π) (y.pm π)) (Go.binOp op t x y):=by
 have he:=ay.a1 S Op.maxDepth t x y;cases x with
 | int k n =>
   cases y with
   |int k' m=>simp only[eF];exact ay.k2 S
   |pointer a=>simp only[eF,bh];exact ay.k3 S
   |_=>unfold Go.binOp;cases op <;> first|exact ay.a he fun _=>ay.c ς|exact ay.d _
 | pointer a =>
   cases y with
   |int k' m=>simp only[eF,bh];exact ay.k5 S
   |pointer b=>simp only[bh];exact ay.k6 S
   |_=>unfold Go.binOp;cases op <;> first|exact ay.a he fun _=>ay.c ς|exact ay.b _|cases a <;> exact ay.b _
 | float k n =>
   cases y with
   |float k' m=>unfold Go.binOp;cases op <;> refine ay.i yK (ay.d _) ?_ <;> first|exact ay.c1|exact ay.e1
   |pointer b=>unfold Go.binOp;cases op <;> first|exact ay.a he fun _=>ay.c ς|exact ay.b _|cases b <;> exact Eqv.u _
   |_=>unfold Go.binOp;cases op <;> first|exact ay.a he fun _=>ay.c ς|exact ay.d _
 | complex k n m =>
   cases y with
   |complex k' u v=>unfold Go.binOp;cases op <;> exact ay.i yK (ay.d _) ay.g3
   |pointer b=>unfold Go.binOp;cases op <;> first|exact ay.a he fun _=>ay.c ς|exact ay.b _|cases b <;> exact Eqv.u _
   |_=>unfold Go.binOp;cases op <;> first|exact ay.a he fun _=>ay.c ς|exact ay.d _
 | string s =>
   cases y with
   |string s'=>unfold Go.binOp;simp only[ru];cases op <;> exact ay.b9
   |pointer b=>unfold Go.binOp;cases op <;> first|exact ay.a he fun _=>ay.c ς|exact ay.b _|cases b <;> exact Eqv.u _
   |_=>unfold Go.binOp;cases op <;> first|exact ay.a he fun _=>ay.c ς|exact ay.d _
 | _ =>
   cases y with
   |pointer b=>unfold Go.binOp;cases op <;> first|exact ay.a he fun _=>ay.c ς|exact ay.b _|cases b <;> exact Eqv.u _
   |_=>unfold Go.binOp;cases op <;> first|exact ay.a he fun _=>ay.c ς|exact ay.d _
end
section
variable {P:Program}{π:Perm}{α β:Type}
def ay.h6{op:BinOp}{t:TypeId}{x y:Operand}{a b:Value}:ay P π (fun x=>x) (Go.eqGuard op t x y (a.pm π) (b.pm π)) (Go.eqGuard op t x y a b):=by
 unfold Go.eqGuard;refine ay.i yK (ay.c rfl) ?_;cases a with
 | nilIface =>
   cases b with
   | nilIface =>
     refine ay.i yK (ay.c rfl) ?_;exact ay.a (ay.b3 _ _ .nilIface .nilIface) fun b=>ay.i yK (ay.b _) (ay.c rfl)
   |_=>exact ay.c rfl
 | agg xs =>
   cases b with
   | agg ys =>
     refine ay.prog (ay.prog (ay.i yK (ay.c rfl) ?_));have:=ay.b3 (P:=P) (π:=π) Op.maxDepth t (.agg xs) (.agg ys);exact ay.a this fun b=>ay.i yK (ay.b _) (ay.c rfl)
   |_=>exact ay.c rfl
 |_=>exact ay.c rfl
def ay.l8{x y:Value}:ay P π (Value.pm π) (Builtin.max2 (x.pm π) (y.pm π)) (Builtin.max2 x y):=by
 cases x with
 | int k n => cases y with
   |int k' m=>exact ay.c ς
   |pointer a=>cases a <;> first|exact ay.b _|exact ay.d _
   |_=>exact ay.d _
 | float k n => cases y with
   | float k' m =>
     simp only[uL,Builtin.max2];split
     ·exact ay.a ay.l fun _=>ay.c ς
     all_goals exact ay.c ς
   |pointer a=>cases a <;> first|exact ay.b _|exact ay.d _
   |_=>exact ay.d _
 | string s => cases y with
   |string s'=>exact ay.a ay.b9 fun v=>ay.a ay.c3 fun b=>ay.c ς
   |pointer a=>cases a <;> first|exact ay.b _|exact ay.d _
   |_=>exact ay.d _
 |pointer a=>cases a <;> cases y <;> first|exact ay.b _|exact ay.d _|(rename_i b;cases b <;> first|exact ay.b _|exact ay.d _)
 |_=>cases y <;> first|exact ay.d _|(rename_i b;cases b <;> first|exact ay.b _|exact ay.d _)
def ay.l9{x y:Value}:ay P π (Value.pm π) (Builtin.min2 (x.pm π) (y.pm π)) (Builtin.min2 x y):=by
 cases x with
 | int k n => cases y with
   |int k' m=>exact ay.c ς
   |pointer a=>cases a <;> first|exact ay.b _|exact ay.d _
   |_=>exact ay.d _
 | float k n => cases y with
   | float k' m =>
     simp only[uL,Builtin.min2];split
     ·exact ay.a ay.l fun _=>ay.c ς
     all_goals exact ay.c ς
   |pointer a=>cases a <;> first|exact ay.b _|exact ay.d _
   |_=>exact ay.d _
 | string s => cases y with
   |string s'=>exact ay.a ay.b9 fun v=>ay.a ay.c3 fun b=>ay.c ς
   |pointer a=>cases a <;> first|exact ay.b _|exact ay.d _
   |_=>exact ay.d _
 |pointer a=>cases a <;> cases y <;> first|exact ay.b _|exact ay.d _|(rename_i b;cases b <;> first|exact ay.b _|exact ay.d _)
 |_=>cases y <;> first|exact ay.d _|(rename_i b;cases b <;> first|exact ay.b _|exact ay.d _)
def ay.e8{f f':Value->Value->Sem Value}(hf:∀x y,ay P π (Value.pm π) (f' (x.pm π) (y.pm π)) (f x y)):∀(l:List Value) (x:Value),ay P π (Value.pm π) ((l.map (Value.pm π)).foldlM f' (x.pm π)) (l.foldlM f x)
 |[],x=>ay.c rfl
 | y :: l, x => by
   simp only[yN,List.foldlM_cons];exact ay.a (hf x y) fun z=>ay.e8 hf l z
def ay.m5{ts:Array TypeId}{ty:TypeId}{args:Array Value}:ay P π (Value.pm π) (Builtin.max_ ts ty (args.map (Value.pm π))) (Builtin.max_ ts ty args):=by
 unfold Builtin.max_;rw[yV];cases args.toList with
 |nil=>exact ay.d _
 |cons x l=>exact ay.e8 (fun _ _=>ay.l8) l x
def ay.m6{ts:Array TypeId}{ty:TypeId}{args:Array Value}:ay P π (Value.pm π) (Builtin.min_ ts ty (args.map (Value.pm π))) (Builtin.min_ ts ty args):=by
 unfold Builtin.min_;rw[yV];cases args.toList with
 |nil=>exact ay.d _
 |cons x l=>exact ay.e8 (fun _ _=>ay.l9) l x
end
def _root_.Go.Place.pm(π:Perm):Place->Place
 |.val v=>.val (v.pm π)
 |.var a=>.var (a.pm π)
section
variable {P:Program}{π:Perm}{α β:Type}
def ay.get{t:TypeId}{x:Place}:ay P π (Value.pm π) (Place.get t (x.pm π)) (Place.get t x):=by
 cases x with
 |val v=>exact ay.c rfl
 |var a=>exact ay.d1
end
section
variable {P:Program}{π:Perm}(S:dE P π){α β:Type}
include S
end
def G5(P:Program)(π:Perm)(v:Value):Prop:=∀fn a b,v=.func fn a b->∃f fd,fn=.func f/\π.g f=f/\P.funcs[f]?=some fd/\fd.body.isSome=true
section
variable {P:Program}{π:Perm}(S:dE P π){α β:Type}
def ay.h1{f:FuncId}{args:Array Value}{a:Func}(d:π.g f=f)(c:P.funcs[f]?=some a)(h:a.body.isSome=true):ay P π (Next.pm π) (Go.callFunc f (args.map (Value.pm π))) (Go.callFunc f args):=by
 refine ay.prog ?_;rw[c];have b:¬a.body.isNone=true:=by cases e:a.body <;> simp_all
 refine ay.i yK (ay.c rfl) ?_;rw[if_neg b,if_neg b];exact ay.c (by simp[Next.pm,d])
end
def rp(b:Builtin)(_:Nat):Bool:=
 match b with
 |.append | .clear | .copy | .delete | .len | .max | .min | .unsafeString=>true
 |_=>false
mutual
def qv:Value->Bool
 |.bool _ | .int _ _ | .float _ _ | .complex _ _ _ | .string _ | .nilFunc | .nilIface=>true
 |.pointer a | .slice a _ _=>a.isNone
 |.map r | .chan r=>r.isNone
 |.func _ _ _=>false
 |.iface _ v=>qv v
 |.agg cs | .tuple cs=>Dd cs
def Dd:Array Value->Bool
 |⟨l⟩=>zM l
def zM:List Value->Bool
 |[]=>true
 |v::l=>qv v && zM l
end
mutual
def lN(b:Perm):∀v:Value,qv v=true->v.pm b=v
 |.bool _,_ | .int _ _,_ | .float _ _,_ | .complex _ _ _,_ | .string _,_ | .nilFunc,_ | .nilIface,_=>by simp
 |.pointer a,h=>by cases a <;> simp_all[qv]
 |.slice a _ _,h=>by cases a <;> simp_all[qv]
 |.map a,h=>by cases a <;> simp_all[qv]
 |.chan a,h=>by cases a <;> simp_all[qv]
 |.func _ _ _,h=>by simp[qv] at h
 |.iface t v,h=>by simp[lN b v h]
 |.agg c,h=>by have:=uu b c h;rw[fp] at this;simp[*]
 |.tuple c,h=>by have:=uu b c h;rw[fp] at this;simp[*]
def uu(b:Perm):∀a:Array Value,Dd a=true->zO b a=a
 |⟨l⟩,h=>by simp only[Dd] at h;simp only[zO,uv b l h]
def uv(b:Perm):∀l:List Value,zM l=true->xi b l=l
 |[],_=>by simp[xi]
 |v::l,h=>by simp only[zM,yB] at h;simp[xi,lN b v h.1,uv b l h.2]
end
def Be(_:Program)(F:Nat->Bool):Operand->Bool
 |.tmp _=>true
 |.const v=>qv v
 |.global _=>false
 |.func f=>F f
def uH(P:Program)(F:Nat->Bool)(o:Op):Bool:=
 o.operands.all (Be P F) &&
 match o with
 |.move _ | .assign _ | .pick .. | .alloc _ | .box .. | .build .. | .buildSlice .. | .load .. | .store .. | .nilCheck _ | .binOp .. | .unOp .. | .makeInterface .. | .makeMap ..
 |.makeSlice .. | .slice .. | .fieldAddr ..  | .indexAddr .. | .index .. | .lookup .. | .mapUpdate .. | .range .. | .next .. | .entry _ | .extract .. | .panic _=>true
 |.convert s d _=>!(P.underlying s matches some .unsafePointer) && !(P.underlying d matches some .unsafePointer)
 |.makeFunc fn ..=>match fn with | .func f=>F f|_=>false
 |.call c=>match c.callee with | .builtin b=>rp b c.args.size | .value _=>true | .invoke ..=>false
 |_=>false
section
variable {P:Program}{π:Perm}(S:dE P π)
omit S in
def ay.d0:∀(n:Nat) {a:Addr}{c:ByteArray},ay P π (fun x=>x) (Go.loadBytes (a.pm π) c n) (Go.loadBytes a c n)
 |0,_,_=>ay.c rfl
 | n + 1, a, c => by
   refine ay.a ay.i2 fun v=>?_;cases v with
   | int k b =>
     cases k <;> first|(rw[<-eQ];exact ay.d0 n)|exact ay.d _
   |_=>exact ay.d _
include S in
def ay.e0{d:Array TypeId}{t:TypeId}{c:Array Value}:ay P π (Value.pm π) (Go.Builtin.unsafeString_ d t (c.map (Value.pm π))) (Go.Builtin.unsafeString_ d t c):=by
 have f:∀(p:Option Addr) (y:Value),ay P π (Value.pm π) (Go.Builtin.unsafeString_ d t #[.pointer (p.map (Addr.pm π)),y.pm π]) (Go.Builtin.unsafeString_ d t #[.pointer p,y]):=fun p y=>by
  refine ay.a ay.b2 fun n=>?_;cases d[0]? with
  |none=>exact ay.d _
  | some g =>
    refine ay.n yK (ay.f S _) (ay.n yK (ay.b _) ?_);cases p with
    |none=>exact ay.i yK (ay.c rfl) (ay.f S _)
    | some a =>
      refine ay.i yK (ay.c rfl) ?_;refine ay.a ay.g7 fun e=>ay.a ay.f4 fun b=>?_;cases b with
      |false=>exact ay.b _
      |true=>exact ay.a (ay.d0 _) fun s=>ay.a ay.j0 fun _=>ay.c rfl
 obtain⟨l⟩:=c;have e:(Array.mk l).map (Value.pm π)=Array.mk (l.map (Value.pm π)):=ς;rw[e];match l with
 |[]=>exact(ay.d _)
 |[x]=>exact(ay.d _)
 |x::y::z::r=>exact(ay.d _)
 | [x, y] =>
   cases x with
   |pointer p=>have:=f p y;simpa only[yN,Cx,bh] using this
   |_=>exact(ay.d _)
end
section
variable {P:Program}{π:Perm}(S:dE P π){F:Nat->Bool}{α β:Type}
def ay.s{s a:Sem Value}(h:ay P π (Value.pm π) a s):ay P π (Next.pm π) (do Pure.pure (.value (<-a))) (do Pure.pure (.value (<-s))):=ay.a h fun _=>ay.c rfl
def ay.j9{s a:Sem Unit}(h:ay P π (fun x=>x) a s):ay P π (Next.pm π) (do a;Pure.pure .skip) (do s;Pure.pure .skip):=ay.a h fun _=>ay.c rfl
include S in
def ay.e7{ρ ρ':Operand->Value}(j:∀x,Be P F x=true->ρ' x=(ρ x).pm π)(X:∀f,F f=true->π.g f=f)(I:∀x,Be P F x=true->G5 P π (ρ x)){o:Oper}(G:uH P F o.op=true)(N:∀x,o.op≠.panic x) :
 ay P π (Next.pm π) (Go.execOp ρ' o) (Go.execOp ρ o):=by
 unfold uH at G;rw[yB] at G;obtain⟨V,w⟩:=G;have h:∀x∈o.op.operands,Be P F x=true:=fun x H=>by
  have:=Ku.1 V x H;omega
 unfold Go.execOp;have B:∀x:Option Operand,(∀y∈x,Be P F y=true)->x.map ρ'=(x.map ρ).map (Value.pm π):=fun x H=>by
  cases x with
  |none=>rfl
  |some y=>grind
 have A:∀C:Array (Nat × Operand),(∀y∈C,Be P F y.2=true)->(C.map fun x=>(x.1,ρ' x.2))=(C.map fun x=>(x.1,ρ x.2)).map fun x=>(x.1,x.2.pm π):=fun C H=>by
  rw[Array.map_map];grind
 have D:∀C:Array Operand,(∀y∈C,Be P F y=true)->C.map ρ'=(C.map ρ).map (Value.pm π):=fun C H=>by
  grind
 cases q:o.op with
 |move x=>rw[q] at h;dsimp only;rw[j x (h x (by simp[Op.operands]))];exact ay.c rfl
 |assign x=>rw[q] at h;dsimp only;rw[j x (h x (by simp[Op.operands]))];exact ay.c rfl
 | pick c a b =>
   rw[q] at h;dsimp only;rw[j c (h c (by simp[Op.operands])),j a (h a (by simp[Op.operands])),j b (h b (by simp[Op.operands]))];exact ay.a ay.c3 fun b=>ay.c (by cases b <;> rfl)
 |alloc e=>exact ay.s (by have:=ay.k0 S (t:=e) (b:=true) (old:=.tuple #[]);simpa using this)
 |box e x=>rw[q] at h;dsimp only;rw[j x (h x (by simp[Op.operands]))];exact ay.s ay.m2
 | build t C =>
   rw[q] at h;dsimp only;rw[A C fun y z=>h y.2 (by simp only[Op.operands,Cy,yW];grind)];exact ay.s (ay.k7 S)
 | buildSlice t n C =>
   rw[q] at h;dsimp only;rw[A C fun y z=>h y.2 (by simp only[Op.operands,Cy,yW];grind)];exact ay.s (ay.f6 S)
 |load t a=>rw[q] at h;dsimp only;rw[j a (h a (by simp[Op.operands]))];exact ay.s ay.j3
 |store t a x=>rw[q] at h;dsimp only;rw[j a (h a (by simp[Op.operands])),j x (h x (by simp[Op.operands]))];exact ay.j9 ay.i7
 | nilCheck x =>
   rw[q] at h;dsimp only;have H:=h x (by simp[Op.operands]);rw[j x H];have L:=I x H;generalize ρ x=v at L;cases v with
   |pointer a=>cases a <;> first|exact ay.f S _|exact ay.c rfl
   |nilIface=>exact ay.f S _
   |nilFunc=>exact ay.f S _
   | func K u p =>
     obtain⟨f,fd,rfl,_⟩:=L _ _ _ rfl;exact ay.c rfl
   |_=>exact ay.c rfl
 |binOp op t x y yt=>rw[q] at h;dsimp only;rw[j x (h x (by simp[Op.operands])),j y (h y (by simp[Op.operands]))];exact ay.s (ay.a ay.h6 fun _=>ay.k4 S)
 |unOp op t x=>rw[q] at h;dsimp only;rw[j x (h x (by simp[Op.operands]))];exact ay.s ay.l4
 | convert s d x =>
   rw[q] at h w;dsimp only;rw[j x (h x (by simp[Op.operands]))];refine ay.s (ay.h5 ⟨fun e=>?_,fun e=>?_⟩)
   ·simp[e] at w
   ·simp[e] at w
 |makeInterface t x=>rw[q] at h;dsimp only;rw[j x (h x (by simp[Op.operands]))];exact ay.s ay.d2
 | makeFunc K u p =>
   rw[q] at h w;dsimp only;rw[D u fun y z=>h y (by simp[Op.operands,z]),D p fun y z=>h y (by simp[Op.operands,z])];have M:K.pm π=K:=by cases K <;> first|(simp only at w;simp[Fn.pm,X _ w])|cases w
   exact ay.s (ay.c (by simp[M]))
 |makeMap t r=>rw[q] at h;dsimp only;rw[B r fun y z=>h y (by cases z;simp[Op.operands])];exact ay.s ay.i3
 |makeSlice t l c=>rw[q] at h;dsimp only;rw[j l (h l (by simp[Op.operands])),j c (h c (by simp[Op.operands]))];exact ay.s (ay.g4 S)
 | slice t x U Y Z =>
   rw[q] at h;dsimp only;rw[j x (h x (by simp[Op.operands])),B U fun y z=>h y (by cases z;simp[Op.operands]),B Y fun y z=>h y (by cases z;simp[Op.operands]),B Z fun y z=>h y (by cases z;simp[Op.operands])];exact ay.s (ay.i6 S)
 |fieldAddr s x f=>rw[q] at h;dsimp only;rw[j x (h x (by simp[Op.operands]))];exact ay.s ay.h8
 |indexAddr t x E=>rw[q] at h;dsimp only;rw[j x (h x (by simp[Op.operands])),j E (h E (by simp[Op.operands]))];exact ay.s (ay.h9 S)
 |index t x E=>rw[q] at h;dsimp only;rw[j x (h x (by simp[Op.operands])),j E (h E (by simp[Op.operands]))];exact ay.s (ay.l1 S)
 |lookup t x E b=>rw[q] at h;dsimp only;rw[j x (h x (by simp[Op.operands])),j E (h E (by simp[Op.operands]))];exact ay.s (ay.j4 S)
 |mapUpdate t m k x=>rw[q] at h;dsimp only;rw[j m (h m (by simp[Op.operands])),j k (h k (by simp[Op.operands])),j x (h x (by simp[Op.operands]))];exact ay.j9 (ay.g5 S)
 |range t x=>rw[q] at h;dsimp only;rw[j x (h x (by simp[Op.operands]))];exact ay.s ay.range
 |next x b=>rw[q] at h;dsimp only;rw[j x (h x (by simp[Op.operands]))];exact ay.s ay.m0
 |entry x=>rw[q] at h;dsimp only;rw[j x (h x (by simp[Op.operands]))];exact ay.s ay.k9
 |extract x i=>rw[q] at h;dsimp only;rw[j x (h x (by simp[Op.operands]))];exact ay.s ay.h7
 |panic x=>exact absurd q (N x)
 | call c =>
   rw[q] at h w;dsimp only at w ⊢;unfold Go.resolve;rw[D c.args fun y z=>h y (by simp[Op.operands,Call.operands,z])];cases Q:c.callee with
   | value f =>
     have M:=h f (by simp[Op.operands,Call.operands,Q]);dsimp only;rw[j f M];have L:=I f M;generalize ρ f=v at L;cases v with
     | func K u p =>
       obtain⟨W,fd,rfl,T,R,O⟩:=L _ _ _ rfl;rw[sI];have:=ay.h1 (P:=P) (π:=π) (f:=W) (args:=u++c.args.map ρ++p) T R O;simp only[IY] at this;simp only[Fn.pm,T];exact this
     |nilFunc=>exact(show ay P π (Next.pm π) (Go.runtimePanic .nilDeref:Sem Next) (Go.runtimePanic .nilDeref:Sem Next) from ay.f S _)
     |_=>exact ay.d _
   |invoke r n=>rw[Q] at w;cases w
   | builtin b =>
     rw[Q] at w;dsimp only at w ⊢;cases b with
     |append=>exact ay.s (ay.i8 S)
     |clear=>exact ay.s (ay.k8 S)
     |copy=>exact ay.s ay.copy
     |delete=>exact ay.s (ay.i9 S)
     |len=>exact ay.s ay.m4
     |max=>exact ay.s ay.m5
     |min=>exact ay.s ay.m6
     |unsafeString=>exact ay.s (ay.e0 S)
     |_=>cases w
 |_=>rw[q] at w;cases w
end
variable {r n:Nat}{a:Addr}{σ:Perm}
def qx(b c:Perm)(d:Deferred):(d.pm c).pm b=d.pm (b.Mg c):=by
 obtain⟨t,a⟩:=d;cases t <;> simp[Deferred.pm,Target.pm,oW,Function.comp_def,pm_comp]
def Bd(b c:Perm)(n:Next):(n.pm c).pm b=n.pm (b.Mg c):=by
 cases n <;> simp[Next.pm,pm_comp,qx,Function.comp_def] <;> rfl
def Ba(d g:Perm)(h:Halt):(h.pm g).pm d=h.pm (d.Mg g):=by
 cases h with
 |panic v=>simp[Halt.pm,pm_comp]
 |unsupported u=>cases u <;> rfl
 |stuck s=>rfl
 | exit c =>
   by_cases i:c=0
   ·subst i;cases e:g.b <;> cases f:d.b <;> simp[Halt.pm,dF,Perm.Mg,e,f]
   ·cases e:g.b <;> cases f:d.b <;> simp[Halt.pm,dF,Perm.Mg,e,f,i]
 |_=>cases e:g.b <;> cases f:d.b <;> simp[Halt.pm,dF,Perm.Mg,e,f]
def qA(b:Perm)(m:Mark):ee b (dG m)=dG (ee b m):=by
 cases m <;> rfl
def qz(b c:Perm)(m:Mark):ee b (ee c m)=ee (b.Mg c) m:=by
 cases m <;> simp[ee,bZ]
def Bc(c d:Perm)(m:Mark):(m.pm d).pm c=m.pm (c.Mg d):=by
 have e:(c.Mg d).b=(c.b != d.b):=rfl;unfold Mark.pm;rw[e,<-qz];cases f:d.b <;> cases g:c.b <;> simp[qA,qy]
def uI{c:Perm}(l:∀x,c.f x=σ.f x)(e:∀x,c.g x=σ.g x)(d:∀x,c.h x=σ.h x)(q:c.b=σ.b):c=σ:=by
 have m:∀x,c.i x=σ.i x:=fun x=>by rw[<-σ.a (c.i x),<-l,c.c]
 have p:∀x,c.j x=σ.j x:=fun x=>by rw[<-σ.d (c.j x),<-e,c.e]
 have o:∀x,c.k x=σ.k x:=fun x=>by rw[<-σ.m (c.k x),<-d,c.l]
 cases c;cases σ;obtain rfl:=funext l;obtain rfl:=funext e;obtain rfl:=funext d;obtain rfl:=funext m;obtain rfl:=funext p;obtain rfl:=funext o;grind
def uC(b c:Perm):(b.Mg c).MS=c.MS.Mg b.MS:=
 uI (fun _=>rfl) (fun _=>rfl) (fun _=>rfl) (by simp only[Perm.Mg,Perm.MS];grind)
def nw(b c:Perm):b.Mg (b.MS.Mg c)=c:=
 uI (fun x=>b.c _) (fun x=>b.e _) (fun x=>b.l _) (by simp only[Perm.Mg,Perm.MS];simp)
def Db{f:Type}{H:Perm->f->f}(g:∀e d a,H e (H d a)=H (e.Mg d) a)(e d:Perm)(s:Sem f) :
 (s.bN d (H d)).bN e (H e)=s.bN (e.Mg d) (H (e.Mg d)):=by
 induction s with
 |pure a=>simp[Sem.bN,g]
 |halt h=>simp[Sem.bN,Ba]
 |store m a v k b=>simp only[Sem.bN,b,bZ,pm_comp]
 |freeze a n k b=>simp only[Sem.bN,b,bZ]
 |setObj r o k b=>simp only[Sem.bN,b,obj_comp];rfl
 |mark m k b=>simp only[Sem.bN,b,Bc]
 |load m a k b=>simp only[Sem.bN,bZ];congr 1;funext v;rw[b,pm_comp,uC]
 |getObj r k b=>simp only[Sem.bN];congr 1;funext o;rw[b,obj_comp,uC]
 |new o k b=>simp only[Sem.bN,obj_comp];congr 1;funext r;rw[b];rfl
 |frozen a k b=>simp only[Sem.bN,bZ];congr 1;funext r;rw[b]
 |shape a k b=>simp only[Sem.bN];congr 1;funext r;rw[b]
 |sys c k b=>rfl
 |_=>simp only[Sem.bN];congr 1;funext r;rename_i b;rw[b]
structure Fam where
 c:Nat->Bool
 leaf:Nat->Bool
 gs:Nat
 d:2<=gs
instance:CoeFun Fam fun _=>Nat->Bool:=⟨Fam.c⟩
instance:Coe Fam (Nat->Bool):=⟨Fam.c⟩
def Fam.b(F:Fam)(r:Nat):Prop:=F.gs+5<=r
def cG(F:Fam)(n:Nat)(σ:Perm):Prop:=(∀r,F.b r->r<n->σ.f r=r)/\(∀f,F f=true->σ.g f=f)/\∀r,σ.f r<F.gs↔r<F.gs
def cG.b{F:Fam}{m:Nat}(h:cG F m σ)(d:n<=m):cG F n σ:=⟨fun r b c=>h.1 r b ω,h.2⟩
def kF:Perm:={ Perm.id with b:=true }
def G9:Perm:={ Perm.id with
 h:=fun x=>x ^^^ 1
 k:=fun x=>x ^^^ 1
 l:=fun n=>by rw[Nat.xor_assoc,Nat.xor_self,Nat.xor_zero]
 m:=fun n=>by rw[Nat.xor_assoc,Nat.xor_self,Nat.xor_zero] }
def fG(F:Fam)(n:Nat):cG F n kF:=⟨fun _ _ _=>rfl,fun _ _=>rfl,fun _=>yK⟩
def sD(F:Fam)(n:Nat):cG F n G9:=⟨fun _ _ _=>rfl,fun _ _=>rfl,fun _=>yK⟩
def sU(r x y:Nat):(Perm.id.Nn x y).f r=if r=x then y else if r=y then x else r:=rfl
def di{F:Fam}(o:F.gs+5<=n)(h:∀e,cG F n e->e.f r=r):r<n/\F.b r:=by
 have j:=F.d;have b:∀y,y≠r->(∀x,F.b x->x<n->x≠r/\x≠y)->(r<F.gs↔y<F.gs)->False:=by
  intro y i g q;have k:cG F n _:=⟨fun x d c=>by
   rw[sU,if_neg (g x d c).1,if_neg (g x d c).2],fun _ _=>rfl,fun x=>by
   rw[sU];grind⟩
  have:=h _ k;rw[sU,if_pos rfl] at this;exact i this
 by_cases p:r<n
 ·by_cases l:F.b r
  ·grind
  ·exfalso
   unfold Fam.b at l;by_cases m:r<F.gs
   ·refine b (if r=0 then 1 else 0) ν (fun x d _=>by unfold Fam.b at d;grind) ν
   ·refine b (if r=F.gs then F.gs+1 else F.gs) ν (fun x d _=>by unfold Fam.b at d;grind) ν
 ·exact(b (r+1) ω (fun x _ c=>by omega) ω).elim
structure Sim (F:Fam) (π:Perm) (w wa:World):Prop where
 c:∀(r:Nat) (o:Obj),F.b r->w.heap[r]?=some o->wa.heap[π.f r]?=some (o.pm π)
 g:∀r,r<F.gs+5->π.f r=r
 d:F.gs+5<=w.heap.size
 e:F.gs+5<=wa.heap.size
 os:wa.os=w.os
 tape:∀i q,w.tape (w.drawn+i) q=wa.tape (wa.drawn+i) q
structure Shut (F:Fam) (w:World):Prop where
 b:∀σ,cG F w.heap.size σ->∀(r:Nat) (o:Obj),F.b r->w.heap[r]?=some o->o.pm σ=o
section
variable {F:Fam}{w:World}
def Shut.c(h:Shut F w){t:TypeId}(b:F.b r):w.heap[r]?≠some (.view a t):=fun e=>by
 have:=h.b _ (sD F _) r _ b e;simp only[Obj.pm,Obj.view.injEq] at this;exact dP t this.2
def Shut.d(h:Shut F w){a:Array Value}{t:TypeId}(b:F.b r):w.heap[r]?≠some (.pending a t):=fun e=>by
 have:=h.b _ (sD F _) r _ b e;simp only[Obj.pm,Obj.pending.injEq] at this;exact dP t this.2
def Shut.e(h:Shut F w){o:Obj}(d:F.b r)(e:w.heap[r]?=some o):o.isChan=false:=by
 cases o with
 | chan c b f i g j =>
   have:=h.b _ (fG F _) r _ d e;simp only[Obj.pm,Obj.chan.injEq] at this;exact absurd this.2.2.1 (by simp[kF])
 |_=>rfl
end
structure Ran (F:Fam) (π π':Perm) (w wa w' wa':World):Prop where
 d:Sim F π' w' wa'
 m:Shut F w'
 grow:w.heap.size<=w'
 l:wa.heap.size<=wa'
 c:∀r,r<w.heap.size->π'.f r=π.f r
 k:∀r,w.heap.size<=r->r<w'.heap.size->wa.heap.size<=π'.f r
 j:∀b,b<wa.heap.size->(∀r,F.gs+5<=r->r<w.heap.size->π.f r≠b)->wa'.heap[b]?=wa.heap[b]?
 t:∀b,b<F.gs+5->w'.heap[b]?=w.heap[b]?
 tape:w'.tape=w.tape
 o:wa'.tape=wa.tape
 os:w'.os=w.os
 q:wa'.output=wa.output
 e:π'.g=π.g/\π'.h=π.h/\π'.b=π.b
def Ran.i{F:Fam}{b:Perm}{w c:World}(h:Sim F b w c)(d:Shut F w):Ran F b b w c w c:=
 ⟨h,d,yb _,yb _,fun _ _=>rfl,fun r f e=>ω,fun _ _ _=>rfl,fun _ _=>rfl,rfl,rfl,rfl,rfl,rfl,rfl,rfl⟩
def Ran.s{F:Fam}{s m c:Perm}{w q p g l d:World}(h:Ran F s m w q p g)(k:Ran F m c p g l d):Ran F s c w q l d:=by
 refine⟨k.d,k.m,yr h.grow k.grow,yr h.l k.l,fun r f=>(k.c r (yg f h.grow)).trans (h.c r f),fun r u t=>?_,fun b j f=>?_,fun b j=>(k.t b j).trans (h.t b j),k.tape.trans h.tape,k.o.trans h.o,k.os.trans h.os,k.q.trans h.q,k.e.1.trans h.e.1,k.e.2.1.trans h.e.2.1,k.e.2.2.trans h.e.2.2⟩
 ·by_cases i:r<p
  ·rw[k.c r i];exact h.k r u i
  ·exact yr h.l (k.k r ω t)
 ·rw[k.j b (yg j h.l) fun r v o e=>?_,h.j b j f];by_cases i:r<w
  ·exact f r v i (by rw[<-h.c r i];exact e)
  ·have:=h.k r ω o;omega
section
variable {F:Fam}{π:Perm}{w wa:World}
def Sim.k(h:Sim F π w wa)(c:r<w):π.f r<wa:=by
 by_cases b:F.b r
 ·have:=h.c r _ b (yl c);grind
 ·have:r<F.gs+5:=by unfold Fam.b at b;omega
  rw[h.g r this];have:=h.e;omega
def Sim.b(h:Sim F π w wa)(r:Nat):π.f r<F.gs↔r<F.gs:=by
 constructor
 ·intro b;have:=π.Nd (h.g (π.f r) ω);omega
 ·intro b;rw[h.g r ω];exact b
def Sim.j(h:Sim F π w wa){v:Value}(d:F.b a.block)(b:w.cell? a=some v):wa.cell? (a.pm π)=some (v.pm π):=by
 unfold World.cell? at b ⊢;simp only[kB,eR,iR];cases c:w.heap[a.block]? with
 |none=>grind
 | some o =>
   rw[c] at b;rw[h.c _ _ d c];cases o <;> simp only[Obj.pm] at b ⊢ <;> try cases b
   grind
def Sim.h(h:Sim F π w wa)(b:a.block<w/\F.b a.block):wa.frozen? (a.pm π)=w.frozen? a:=by
 unfold World.frozen?;simp only[kB,eR];rw[yl b.1,h.c _ _ b.2 (yl b.1)];cases w.heap[a.block] <;> rfl
def Sim.l(h:Sim F π w wa)(b:r<w/\F.b r):wa.shape? (π.f r)=w.shape? r:=by
 unfold World.shape?;rw[yl b.1,h.c _ _ b.2 (yl b.1)];cases w.heap[r] <;> simp[Obj.pm]
def Ran.p(h:Sim F π w wa)(l:Shut F w)(k:r<w)(m:F.gs+5<=r){f p:Obj->Obj}(q:∀o,p (o.pm π)=(f o).pm π)(t:∀j,cG F w.heap.size j->∀o,o.pm j=o->(f o).pm j=f o) :
 Ran F π π w wa { w with heap:=w.heap.modify r f } { wa with heap:=wa.heap.modify (π.f r) p }:=by
 refine⟨⟨fun x o g c=>?_,h.g,ν,by simpa using h.e,h.os,h.tape⟩,⟨fun j i x o g c=>?_⟩,ς,ς,fun _ _=>rfl,fun x y v=>ν,fun b s u=>?_,fun b s=>?_,rfl,rfl,rfl,rfl,rfl,rfl,rfl⟩
 ·simp only[LI] at c ⊢;by_cases d:r=x
  ·subst d;simp only[if_true] at c ⊢;rw[yl k] at c;cases c;rw[h.c _ _ g (yl k)];simp[q]
  ·rw[if_neg d] at c;rw[if_neg (fun e=>d (π.Nd e))];exact h.c _ _ g c
 ·simp only[Array.size_modify] at i;simp only[LI] at c;by_cases d:r=x
  ·subst d;simp only[if_true] at c;rw[yl k] at c;cases c;exact t j i _ (l.b j i _ _ g (yl k))
  ·rw[if_neg d] at c;exact l.b j i _ _ g c
 ·grind
 grind
end
