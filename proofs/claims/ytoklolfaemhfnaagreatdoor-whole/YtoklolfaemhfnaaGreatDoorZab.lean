import Derived.Test.YtoklolfaemhfnaaGreatDoorZaa
set_option maxRecDepth 100000
set_option maxHeartbeats 8000000
namespace Go.Pm
section
open Go
section
variable {P:Program}{π:Perm}{α β:Type}
theorem Eqv.forIn'{ι σ:Type}{f f':ι->σ->Sem (ForInStep σ)}(hf:∀i s,Eqv P π (fun x=>x) (f' i s) (f i s))(l:List ι)(s:σ):Eqv P π (fun x=>x) (ForIn.forIn l s f') (ForIn.forIn l s f):=by
 induction l generalizing s with
 |nil=>simp only[List.forIn_nil];exact Eqv.p rfl
 | cons x l ih =>
   simp only[List.forIn_cons];refine Eqv.b (hf x s) fun r=>?_;cases r with
   |done a=>exact Eqv.p rfl
   |yield a=>exact ih a
theorem Eqv.forInA{ι σ:Type}{f f':ι->σ->Sem (ForInStep σ)}(hf:∀i s,Eqv P π (fun x=>x) (f' i s) (f i s))(l:Array ι)(s:σ):Eqv P π (fun x=>x) (ForIn.forIn l s f') (ForIn.forIn l s f):=by
 rw[<-ybi,<-ybi];exact Eqv.forIn' hf _ _
theorem Eqv.forInR{σ:Type}{n:Nat}{f f':Nat->σ->Sem (ForInStep σ)}(hf:∀i s,Eqv P π (fun x=>x) (f' i s) (f i s))(s:σ):Eqv P π (fun x=>x) (ForIn.forIn [:n] s f') (ForIn.forIn [:n] s f):=by
 rw[Std.Legacy.Range.forIn_eq_forIn_range',Std.Legacy.Range.forIn_eq_forIn_range'];exact Eqv.forIn' hf _ _
theorem Eqv.typeStr{t:TypeId}:Eqv P π (fun x=>x) (Go.typeStr t) (Go.typeStr t):=by
 unfold Go.typeStr;exact Eqv.b Eqv.typeInfo fun i=>Eqv.i yK (Eqv.u _) (Eqv.p rfl)
end
section
variable {P:Program}{π:Perm}(S:Still P π){α β:Type}
include S
theorem ql8(r:Nat):π.f r<P.globals.size↔r<P.globals.size:=S.below r
theorem Eqv.equalIn:∀(n:Nat) (t:TypeId) (x y:Value),Eqv P π (fun x=>x) (Op.equalIn n t (x.pm π) (y.pm π)) (Op.equalIn n t x y)
 |0,_,_,_=>Eqv.u _
 | n + 1, t, x, y => by
   have ih:=Eqv.equalIn n;unfold Op.equalIn;refine Eqv.b Eqv.n fun d=>?_;cases d with
   |bool=>cases x <;> cases y <;> simp <;> first|exact Eqv.p rfl|exact Eqv.s _
   |string=>cases x <;> cases y <;> simp <;> first|exact Eqv.p rfl|exact Eqv.s _
   |float=>cases x <;> cases y <;> simp <;> first|exact Eqv.i yK (Eqv.p rfl) (Eqv.s _)|exact Eqv.s _
   |complex=>cases x <;> cases y <;> simp <;> first|exact Eqv.i yK (Eqv.p rfl) (Eqv.s _)|exact Eqv.s _
   | slice e =>
     cases x with
     | slice a l c =>
       cases y with
       |slice b l' c'=>cases a <;> cases b <;> simp <;> first|exact Eqv.p rfl|exact Eqv.s _
       |_=>cases a <;> exact Eqv.s _
     |_=>cases y <;> exact Eqv.s _
   | map k e =>
     cases x with
     | map a =>
       cases y with
       |map b=>cases a <;> cases b <;> simp <;> first|exact Eqv.p rfl|exact Eqv.s _
       |_=>cases a <;> exact Eqv.s _
     |_=>cases y <;> exact Eqv.s _
   |func a b c=>cases x <;> cases y <;> simp <;> first|exact Eqv.p rfl|exact Eqv.s _
   | chan a b =>
     cases x with
     | chan a =>
       cases y with
       |chan b=>cases a <;> cases b <;> simp <;> exact Eqv.p (by simp)
       |_=>exact Eqv.s _
     |_=>cases y <;> exact Eqv.s _
   | unsafePointer =>
     cases x with
     | pointer a =>
       cases y with
       |pointer b=>simp only[pm_pointer];exact Eqv.samePointer
       |_=>exact Eqv.s _
     |_=>cases y <;> exact Eqv.s _
   | pointer e =>
     cases x with
     | pointer a =>
       cases y with
       | pointer b =>
         cases a with
         |none=>cases b <;> exact Eqv.p rfl
         | some a =>
           cases b with
           |none=>exact Eqv.p rfl
           | some b =>
             simp only[pm_pointer,yp];refine Eqv.b Eqv.sizeOf fun n=>Eqv.i yK Eqv.sameAddr (Eqv.i (by simp) (Eqv.p rfl) ?_);exact Eqv.b Eqv.choose fun _=>Eqv.p rfl
       |_=>cases a <;> exact Eqv.s _
     |_=>cases y <;> exact Eqv.s _
   | interface ms =>
     cases x with
     |nilIface=>cases y <;> simp <;> first|exact Eqv.p rfl|exact Eqv.s _
     | iface tx vx =>
       cases y with
       |nilIface=>exact Eqv.p rfl
       | iface ty vy =>
         simp only[qke];refine Eqv.i yK (Eqv.p rfl) (Eqv.b Eqv.typeInfo fun i=>Eqv.i yK ?_ (ih _ _ _));refine Eqv.prog (Eqv.prog (Eqv.guard yK (Eqv.u _) ?_));exact Eqv.b Eqv.typeStr fun s=>Eqv.r S _
       |_=>exact Eqv.s _
     |_=>cases y <;> exact Eqv.s _
   | struct fields =>
     cases x with
     | agg xs =>
       cases y with
       | agg ys =>
         simp only[qds];refine Eqv.prog (Eqv.guard yK (Eqv.u _) ?_);refine Eqv.b (Eqv.forInA (fun f s=>?_) _ _) fun r=>?_
         ·refine Eqv.i yK (Eqv.b Eqv.part fun u=>Eqv.b Eqv.part fun v=>Eqv.b (ih _ _ _) fun b=>Eqv.i yK (Eqv.p rfl) (Eqv.p rfl)) (Eqv.p rfl)
         ·obtain⟨r,_⟩:=r;cases r <;> exact Eqv.p rfl
       |_=>exact Eqv.s _
     |_=>cases y <;> exact Eqv.s _
   | array len e =>
     cases x with
     | agg xs =>
       cases y with
       | agg ys =>
         simp only[qds];refine Eqv.b Eqv.sizeOf fun k=>Eqv.b (Eqv.forInR (fun f s=>?_) _) fun r=>?_
         ·exact Eqv.b Eqv.part fun u=>Eqv.b Eqv.part fun v=>Eqv.b (ih _ _ _) fun b=>Eqv.i yK (Eqv.p rfl) (Eqv.p rfl)
         ·obtain⟨r,_⟩:=r;cases r <;> exact Eqv.p rfl
       |_=>exact Eqv.s _
     |_=>cases y <;> exact Eqv.s _
   | int k =>
     cases x with
     | int k1 a =>
       cases y with
       |int k2 b=>simp only[qbd];exact Eqv.i yK (Eqv.p rfl) (Eqv.s _)
       | pointer b =>
         simp only[qbd,pm_pointer];cases b <;> rcases a with (_|m)|m <;> first|exact Eqv.p rfl|exact Eqv.u _
       |_=>exact Eqv.s _
     | pointer a =>
       cases a with
       |none=>cases y <;> exact Eqv.u _
       | some a =>
         cases y with
         | int k2 b =>
           simp only[qbd,pm_pointer,yp];rcases b with (_|m)|m <;> first|exact Eqv.p rfl|exact Eqv.u _
         | pointer b =>
           cases b with
           |none=>exact Eqv.u _
           | some b =>
             simp only[pm_pointer,yp];refine Eqv.b Eqv.h fun a=>Eqv.b Eqv.h fun b=>Eqv.prog ?_;refine Eqv.i (by simp[ql8 S]) (Eqv.b Eqv.byteOf fun _=>Eqv.b Eqv.byteOf fun _=>Eqv.p rfl) ?_;refine Eqv.b Eqv.typeInfo fun i=>?_;dsimp only;split
             ·exact Eqv.i (by simp) (Eqv.p rfl) (Eqv.u _)
             ·exact Eqv.u _
         |_=>exact Eqv.u _
     |_=>cases y <;> first|exact Eqv.s _|exact Eqv.u _
   |_=>exact Eqv.s _
end
section
variable {P:Program}{π:Perm}(S:Still P π){α β:Type}
theorem Eqv.eqGuardIn:∀(n:Nat) (t:TypeId) (x y:Value),Eqv P π (fun x=>x) (Op.eqGuardIn n t (x.pm π) (y.pm π)) (Op.eqGuardIn n t x y)
 |0,_,_,_=>Eqv.u _
 | n + 1, t, x, y => by
   have ih:=Eqv.eqGuardIn n;unfold Op.eqGuardIn;refine Eqv.b Eqv.n fun d=>?_;cases d with
   |interface ms=>cases x <;> cases y <;> exact Eqv.p rfl
   | struct fields =>
     cases x with
     | agg xs =>
       cases y with
       | agg ys =>
         simp only[qds];refine Eqv.b (Eqv.forInA (fun f s=>?_) _ _) fun r=>?_
         ·exact Eqv.i yK (Eqv.b Eqv.part fun u=>Eqv.b Eqv.part fun v=>Eqv.b (ih _ _ _) fun b=>Eqv.i yK (Eqv.p rfl) (Eqv.p rfl)) (Eqv.p rfl)
         ·obtain⟨r,_⟩:=r;cases r <;> exact Eqv.p rfl
       |_=>exact Eqv.p rfl
     |_=>cases y <;> exact Eqv.p rfl
   | array len e =>
     cases x with
     | agg xs =>
       cases y with
       | agg ys =>
         simp only[qds];refine Eqv.b Eqv.sizeOf fun k=>Eqv.b (Eqv.forInR (fun f s=>?_) _) fun r=>?_
         ·exact Eqv.b Eqv.part fun u=>Eqv.b Eqv.part fun v=>Eqv.b (ih _ _ _) fun b=>Eqv.i yK (Eqv.p rfl) (Eqv.p rfl)
         ·obtain⟨r,_⟩:=r;cases r <;> exact Eqv.p rfl
       |_=>exact Eqv.p rfl
     |_=>cases y <;> exact Eqv.p rfl
   |_=>exact Eqv.p rfl
theorem qdt(k:Value)(kind:TypeDesc):∀(es:List MapEntry) (i:Nat),
 Instr.findNow kind (k.pm π) (es.map (MapEntry.pm π)) i=(Instr.findNow kind k es i).map (Option.map fun x=>(x.1,x.2.pm π))
 |[],i=>by simp[Instr.findNow]
 | e :: es, i => by
   have hs:Instr.sameNow kind (k.pm π) (e.key.pm π)=Instr.sameNow kind k e.key:=by
    cases kind <;> cases k <;> cases hk:e.key <;> simp[Instr.sameNow]
   simp only[yN,Instr.findNow,MapEntry.pm,hs];cases Instr.sameNow kind k e.key with
   |none=>rfl
   | some b => cases b with
     |true=>rfl
     |false=>exact qdt k kind es (i+1)
include S
theorem Eqv.findAsking(kt:TypeId)(k:Value):∀(es:List MapEntry) (i:Nat),
 Eqv P π (Option.map fun x=>(x.1,x.2.pm π)) (Instr.findAsking kt (k.pm π) (es.map (MapEntry.pm π)) i) (Instr.findAsking kt k es i)
 |[],i=>Eqv.p rfl
 | e :: es, i => by
   unfold Instr.findAsking;simp only[yN];exact Eqv.b (Eqv.equalIn S _ _ _ _) fun b=>Eqv.i yK (Eqv.p rfl) (Eqv.findAsking kt k es (i+1))
theorem Eqv.findKey(kt:TypeId)(k:Value)(es:List MapEntry) :
 Eqv P π (Option.map fun x=>(x.1,x.2.pm π)) (Instr.findKey kt (k.pm π) (es.map (MapEntry.pm π))) (Instr.findKey kt k es):=by
 unfold Instr.findKey;refine Eqv.b Eqv.n fun d=>?_;rw[qdt];cases Instr.findNow d k es 0 with
 |none=>exact Eqv.findAsking S kt k es 0
 |some r=>exact Eqv.p rfl
theorem Eqv.checkKey(b:Bool):∀(n:Nat) (t:TypeId) (x:Value),Eqv P π (fun x=>x) (Instr.checkKey b n t (x.pm π)) (Instr.checkKey b n t x)
 |0,_,_=>Eqv.u _
 | n + 1, t, x => by
   have ih:=Eqv.checkKey b n;unfold Instr.checkKey;refine Eqv.b Eqv.n fun d=>?_;cases d with
   | interface ms =>
     cases x with
     | iface d x =>
       simp only[qke];refine Eqv.b Eqv.typeInfo fun i=>Eqv.i yK ?_ (ih _ _);have h2 : Eqv P π (fun x => x) (do let s ← Go.typeStr d; let r ← (Go.runtimePanic (.error ("hash of unhashable type " ++ s)) : Sem Unit); (fun _ : Unit => Instr.checkKey b n d (x.pm π)) r) (do let s ← Go.typeStr d; let r ← (Go.runtimePanic (.error ("hash of unhashable type " ++ s)) : Sem Unit); (fun _ : Unit => Instr.checkKey b n d x) r) :=
        Eqv.b Eqv.typeStr fun s=>Eqv.b (hα:=fun x=>x) (Eqv.r S _) fun _=>ih _ _
       exact Eqv.i yK (Eqv.b (hα:=fun x=>x) (Eqv.r S _) fun _=>h2) h2
     |nilIface=>exact Eqv.p rfl
     |_=>exact Eqv.s _
   | array len e =>
     cases x with
     | agg cs =>
       simp only[qds];refine Eqv.b (Eqv.forInR (fun i s=>?_) _) fun _=>Eqv.p rfl;exact Eqv.b Eqv.sizeOf fun k=>Eqv.b Eqv.part fun v=>Eqv.b (ih _ _) fun _=>Eqv.p rfl
     |_=>exact Eqv.s _
   | struct fields =>
     cases x with
     | agg cs =>
       simp only[qds];refine Eqv.b (Eqv.forInA (fun f s=>?_) _ _) fun _=>Eqv.p rfl;exact Eqv.i yK (Eqv.b Eqv.part fun v=>Eqv.b (ih _ _) fun _=>Eqv.p rfl) (Eqv.p rfl)
     |_=>exact Eqv.s _
   |_=>exact Eqv.p rfl
theorem Eqv.lookup{t:TypeId}{x ix:Value}{ok:Bool}:Eqv P π (Value.pm π) (Instr.lookup t (x.pm π) (ix.pm π) ok) (Instr.lookup t x ix ok):=by
 unfold Instr.lookup;refine Eqv.b Eqv.n fun d=>?_;cases d with
 | map key elem =>
   have hj:∀es:Array MapEntry,Eqv P π (Value.pm π)
    (do Instr.checkKey (es.map (MapEntry.pm π)).isEmpty 10000 key (ix.pm π)
        match <-Instr.findKey key (ix.pm π) (es.map (MapEntry.pm π)).toList with
        |some (_,v)=>(do let y <-Pure.pure (v,true);(match y with|(v,okk)=>Pure.pure (if ok then .tuple #[v,.bool okk] else v)))
        |none=>(do let z <-Go.zeroValue elem;let y <-Pure.pure (z,false);(match y with|(v,okk)=>Pure.pure (if ok then .tuple #[v,.bool okk] else v))):Sem Value)
    (do Instr.checkKey es.isEmpty 10000 key ix
        match <-Instr.findKey key ix es.toList with
        |some (_,v)=>(do let y <-Pure.pure (v,true);(match y with|(v,okk)=>Pure.pure (if ok then .tuple #[v,.bool okk] else v)))
        |none=>(do let z <-Go.zeroValue elem;let y <-Pure.pure (z,false);(match y with|(v,okk)=>Pure.pure (if ok then .tuple #[v,.bool okk] else v))):Sem Value):=by
    intro es;have e1:(es.map (MapEntry.pm π)).isEmpty=es.isEmpty:=by simp[Array.isEmpty]
    rw[e1,yV];refine Eqv.b (Eqv.checkKey S _ _ _ _) fun _=>Eqv.b (Eqv.findKey S _ _ _) fun r=>?_;have hp:∀(v:Value) (b:Bool),Eqv P π (Value.pm π) (do let y <-Pure.pure (v.pm π,b);(match y with|(v,okk)=>Pure.pure (if ok then .tuple #[v,.bool okk] else v)):Sem Value) (do let y <-Pure.pure (v,b);(match y with|(v,okk)=>Pure.pure (if ok then .tuple #[v,.bool okk] else v)):Sem Value):=
     fun v b=>Eqv.b (hα:=fun y=>(y.1.pm π,y.2)) (Eqv.p rfl) fun y=>Eqv.p (by cases ok <;> simp)
    cases r with
    |none=>exact Eqv.b (Eqv.zeroValue S) fun z=>hp z false
    |some r=>exact hp r.2 true
   cases x with
   | map r =>
     cases r with
     |none=>exact Eqv.b (hα:=Array.map (MapEntry.pm π)) (Eqv.p (by simp)) fun es=>hj es
     | some r =>
       simp only[qdr,yp];refine Eqv.b Eqv.getObj fun o=>?_;cases o with
       |map es c=>exact Eqv.b (hα:=Array.map (MapEntry.pm π)) (Eqv.p rfl) fun es=>hj es
       |_=>exact Eqv.s _
   |_=>exact Eqv.s _
 |_=>exact Eqv.s _
omit S in
theorem qhy(a b:Option Addr):(a.map (Addr.pm π) == b.map (Addr.pm π))=(a == b):=by
 cases a <;> cases b <;> simp
omit S in
theorem qki(a b:Option Nat):(a.map π.f == b.map π.f)=(a == b):=by
 cases a <;> cases b <;> simp
omit S in
theorem qi3:∀(n:Nat) (x y:Value),Instr.sameBits n (x.pm π) (y.pm π)=Instr.sameBits n x y:=by
 intro n;induction n with
 | zero =>
   intro x y;cases x <;> cases y <;> simp[Instr.sameBits,qhy,qki]
 | succ n ih =>
   intro x y;have hz:∀xs ys:List Value,((xs.map (Value.pm π)).zip (ys.map (Value.pm π))).all (fun x=>Instr.sameBits n x.1 x.2)=(xs.zip ys).all fun x=>Instr.sameBits n x.1 x.2:=by
    intro xs;induction xs with
    |nil=>intro ys;simp
    |cons a xs ihx=>intro ys;cases ys <;> simp_all
   cases x <;> cases y <;> simp[Instr.sameBits,ih,qhy,qki,hz]
omit S in
theorem Eqv.keyThatStays{o n:Value}:Eqv P π (Value.pm π) (Instr.keyThatStays (o.pm π) (n.pm π)) (Instr.keyThatStays o n):=by
 unfold Instr.keyThatStays;rw[qi3];refine Eqv.i yK (Eqv.p rfl) (Eqv.b Eqv.choose fun c=>Eqv.p ?_);split <;> rfl
omit S in
theorem qf5(es:Array MapEntry)(i:Nat)(key:Value):((((es.map (MapEntry.pm π))[i]?).map (·.key)).getD (key.pm π))=((((es[i]?).map (·.key)).getD key)).pm π:=by
 rw[yw];cases es[i]? <;> simp[MapEntry.pm]
omit S in
theorem entry_born(es:Array MapEntry)(i:Nat):(((es.map (MapEntry.pm π))[i]?).map (fun x=>(x.born:Int))).getD 0=((es[i]?).map (fun x=>(x.born:Int))).getD 0:=by
 rw[yw];cases es[i]? <;> simp[MapEntry.pm]
omit S in
theorem qei(es:Array MapEntry)(i:Nat){f f':MapEntry->MapEntry}(h:∀e,f' (e.pm π)=(f e).pm π):(es.map (MapEntry.pm π)).modify i f'=(es.modify i f).map (MapEntry.pm π):=by
 apply yap;intro j;simp only[yaG,yw];cases es[j]? <;> by_cases hj:i=j <;> simp[hj,h]
theorem Eqv.mapUpdate{t:TypeId}{m k v:Value}:Eqv P π (fun x=>x) (Instr.mapUpdate t (m.pm π) (k.pm π) (v.pm π)) (Instr.mapUpdate t m k v):=by
 unfold Instr.mapUpdate;refine Eqv.b Eqv.n fun d=>?_;cases d with
 | map kt e =>
   cases m with
   | map r =>
     cases r with
     |none=>exact Eqv.r S _
     | some r =>
       simp only[qdr,yp];refine Eqv.b Eqv.getObj fun o=>?_;cases o with
       | map es clock =>
         simp only[Obj.pm,yV];refine Eqv.b (Eqv.checkKey S _ _ _ _) fun _=>Eqv.b (Eqv.findKey S _ _ _) fun r=>?_;cases r with
         | none =>
           have:=Eqv.setObj (P:=P) (π:=π) (r:=r) (o:=.map (es.push { key:=k,val:=v,born:=clock }) (clock+1));simpa[Obj.pm,MapEntry.pm] using this
         | some x =>
           simp only[yp];rw[qf5];refine Eqv.b Eqv.keyThatStays fun key=>?_;rw[qei es x.1 (f:=fun e=>{ e with key:=key,val:=v }) (fun e=>by simp[MapEntry.pm])];exact Eqv.setObj (o:=.map (es.modify x.1 fun e=>{ e with key:=key,val:=v }) clock)
       |_=>exact Eqv.s _
   |_=>exact Eqv.s _
 |_=>exact Eqv.s _
theorem Eqv.delete{ts:Array TypeId}{ty:TypeId}{args:Array Value}:Eqv P π (Value.pm π) (Builtin.delete_ ts ty (args.map (Value.pm π))) (Builtin.delete_ ts ty args):=by
 unfold Builtin.delete_;rw[yw,yw];cases ts[0]? with
 |none=>exact Eqv.s _
 |some mt=>
 cases args[0]? with
 |none=>exact Eqv.s _
 |some m=>
 cases args[1]? with
 |none=>exact Eqv.s _
 |some k=>
 simp only[yp];refine Eqv.b Eqv.n fun d=>?_;have hs : Eqv P π (Value.pm π) (do let _ ← (Go.stuck "delete: map expected" : Sem Unit); Pure.pure (.tuple #[]) : Sem Value) (do let _ ← (Go.stuck "delete: map expected" : Sem Unit); Pure.pure (.tuple #[]) : Sem Value) := rfl;cases d with
 | map kt e =>
   cases m with
   | map r =>
     cases r with
     |none=>exact Eqv.b (Eqv.checkKey S _ _ _ _) fun _=>Eqv.p (by simp)
     | some r =>
       simp only[qdr,yp];refine Eqv.b Eqv.getObj fun o=>?_;cases o with
       | map es clock =>
         simp only[Obj.pm,yV];have e1:(es.map (MapEntry.pm π)).isEmpty=es.isEmpty:=by simp[Array.isEmpty]
         rw[e1];refine Eqv.b (Eqv.checkKey S _ _ _ _) fun _=>Eqv.b (Eqv.findKey S _ _ _) fun r=>?_;cases r with
         |none=>exact Eqv.b (Eqv.setObj (o:=.map es clock)) fun _=>Eqv.p (by simp)
         | some x =>
           have he:(es.map (MapEntry.pm π)).eraseIdxIfInBounds x.1=(es.eraseIdxIfInBounds x.1).map (MapEntry.pm π):=by
            unfold Array.eraseIdxIfInBounds;by_cases hx:x.1<es.size
            ·simp only[hx,yaI, ↓reduceDIte];apply yap;intro j;simp only[Array.getElem?_eraseIdx,yw];split <;> rfl
            ·simp[hx]
           simp only[yp];rw[he];exact Eqv.b (Eqv.setObj (o:=.map (es.eraseIdxIfInBounds x.1) clock)) fun _=>Eqv.p (by simp)
       |_=>exact hs
   |_=>exact hs
 |_=>exact Eqv.s _
end
section
variable {P:Program}{π:Perm}(S:Still P π){α β:Type}
theorem Eqv.range{t:TypeId}{x:Value}:Eqv P π (Value.pm π) (Instr.range t (x.pm π)) (Instr.range t x):=by
 unfold Instr.range;refine Eqv.b Eqv.n fun d=>?_;have hj:∀o:Obj,Eqv P π (Value.pm π) (do let r ←Go.newObj (o.pm π);Pure.pure (.pointer (some ⟨r,0,none⟩)):Sem Value) (do let r ←Go.newObj o;Pure.pure (.pointer (some ⟨r,0,none⟩)):Sem Value):=fun o=>Eqv.b Eqv.newObj fun r=>Eqv.p (by simp);have hs : Eqv P π (Value.pm π) (do let _ ← (Go.stuck "Range: string or map expected" : Sem Obj); Go.stuck "" : Sem Value) (do let _ ← (Go.stuck "Range: string or map expected" : Sem Obj); Go.stuck "" : Sem Value) := rfl;cases d with
 | string =>
   cases x with
   |string s=>exact Eqv.b (hα:=Obj.pm π) (Eqv.p rfl) fun o=>hj o
   |_=>exact hs
 | map k e =>
   cases x with
   | map r =>
     cases r with
     |none=>exact Eqv.b (hα:=Obj.pm π) (Eqv.p rfl) fun o=>hj o
     | some m =>
       simp only[qdr,yp];refine Eqv.b Eqv.getObj fun o=>?_;cases o with
       |map es c=>exact Eqv.b (hα:=Obj.pm π) (Eqv.p rfl) fun o=>hj o
       |_=>exact Eqv.b (hα:=Obj.pm π) (Eqv.s _) fun o=>hj o
   |_=>exact hs
 |_=>cases x <;> exact hs
theorem qej(es:Array MapEntry)(p:Nat->Bool):(es.map (MapEntry.pm π)).filter (fun e=>p e.born)=(es.filter fun e=>p e.born).map (MapEntry.pm π):=by
 rw[Array.filter_map];rfl
theorem Eqv.next{x:Value}{b:Bool}{t:TypeId}:Eqv P π (Value.pm π) (Instr.next (x.pm π) b t) (Instr.next x b t):=by
 unfold Instr.next;have hover:Eqv P π (Value.pm π) (Pure.pure (.tuple #[.bool false]):Sem Value) (Pure.pure (.tuple #[.bool false]):Sem Value):=Eqv.p (by simp);cases x with
 | pointer a =>
   cases a with
   |none=>exact Eqv.s _
   | some a =>
     obtain⟨r,off,sp⟩:=a;cases off with
     |succ n=>exact Eqv.s _
     | zero =>
       simp only[pm_pointer,yp,qf3];refine Eqv.b Eqv.getObj fun o=>?_;cases o with
       | stringIter s pos =>
         cases b with
         |false=>exact Eqv.s _
         |true=>exact Eqv.i yK (Eqv.b (Eqv.setObj (o:=.stringIter s (pos+(Utf8.decode s pos).2))) fun _=>Eqv.p (by simp)) hover
       | mapIter m since seen last =>
         cases b with
         |true=>cases m <;> exact Eqv.s _
         | false =>
           cases m with
           |none=>exact hover
           | some m =>
             simp only[Obj.pm,yp];refine Eqv.b Eqv.getObj fun o=>?_;cases o with
             | map es clock =>
               simp only[Obj.pm];have e1:(es.map (MapEntry.pm π)).isEmpty=es.isEmpty:=by simp[Array.isEmpty]
               have e2:(es.map (MapEntry.pm π)).all (fun e=>decide (e.born≥last))=es.all fun e=>decide (e.born≥last):=by
                rw[Array.all_map];rfl
               rw[e1,e2];refine Eqv.guard yK (Eqv.u _) ?_;rw[qej es (fun b=>!seen.contains b)];generalize es.filter (fun e=>!seen.contains e.born)=left;rw[qej left (fun b=>decide (b<since)),qej left (fun b=>decide (b≥since))];generalize left.filter (fun x=>decide (x.born<since))=old;generalize left.filter (fun x=>decide (x.born≥since))=new;have e3:(old.map (MapEntry.pm π)).isEmpty=old.isEmpty:=by simp[Array.isEmpty]
               have e4:(if (old.map (MapEntry.pm π)).isEmpty=true then #[none] else #[])++Array.map some (old.map (MapEntry.pm π)++new.map (MapEntry.pm π))=((if old.isEmpty=true then #[none] else #[])++Array.map some (old++new)).map (Option.map (MapEntry.pm π)):=by
                rw[e3];cases old.isEmpty <;> simp[Function.comp_def]
               rw[e4];generalize (if old.isEmpty=true then #[none] else #[])++Array.map some (old++new)=cand;rw[yaI];refine Eqv.b Eqv.choose fun i=>?_;rw[yw];cases cand[i]? with
               |none=>exact Eqv.s _
               | some o =>
                 cases o with
                 |none=>exact hover
                 |some e=>exact Eqv.b (Eqv.setObj (o:=.mapIter (some m) since (seen.push e.born) clock)) fun _=>Eqv.p (by simp[MapEntry.pm])
             |_=>exact Eqv.s _
       |_=>cases b <;> exact Eqv.s _
 |_=>exact Eqv.s _
theorem Eqv.entry{x:Value}:Eqv P π (Value.pm π) (Instr.entry (x.pm π)) (Instr.entry x):=by
 unfold Instr.entry;cases x with
 | pointer a =>
   cases a with
   |none=>exact Eqv.s _
   | some a =>
     obtain⟨r,off,sp⟩:=a;cases off with
     |succ n=>exact Eqv.s _
     | zero =>
       simp only[pm_pointer,yp,qf3];refine Eqv.b Eqv.getObj fun o=>?_;cases o with
       | mapIter m since seen st =>
         cases m with
         |none=>exact Eqv.s _
         | some m =>
           simp only[Obj.pm,yp];cases seen.back? with
           |none=>exact Eqv.s _
           | some stamp =>
             refine Eqv.b Eqv.getObj fun o=>?_;cases o with
             | map es clock =>
               simp only[Obj.pm];refine Eqv.guard yK (Eqv.u _) ?_;have hf:(es.map (MapEntry.pm π)).find? (fun e=>e.born == stamp)=(es.find? fun e=>e.born == stamp).map (MapEntry.pm π):=by
                rw[Array.find?_map];rfl
               rw[hf];cases es.find? (fun e=>e.born == stamp) with
               |none=>exact Eqv.u _
               |some e=>exact Eqv.p (by simp[MapEntry.pm])
             |_=>exact Eqv.s _
       |_=>exact Eqv.s _
 |_=>exact Eqv.s _
theorem Eqv.clear(S:Still P π){ts:Array TypeId}{ty:TypeId}{args:Array Value}:Eqv P π (Value.pm π) (Builtin.clear_ ts ty (args.map (Value.pm π))) (Builtin.clear_ ts ty args):=by
 unfold Builtin.clear_;rw[yw];cases ts[0]? with
 |none=>exact Eqv.s _
 |some t=>
 cases args[0]? with
 |none=>exact Eqv.s _
 |some x=>
 simp only[yp];refine Eqv.b Eqv.n fun d=>?_;have hp:Eqv P π (Value.pm π) (Pure.pure (.tuple #[]):Sem Value) (Pure.pure (.tuple #[]):Sem Value):=Eqv.p (by simp);have hs : Eqv P π (Value.pm π) (do let _ ← (Go.stuck "clear: map or slice expected" : Sem Unit); Pure.pure (.tuple #[]) : Sem Value) (do let _ ← (Go.stuck "clear: map or slice expected" : Sem Unit); Pure.pure (.tuple #[]) : Sem Value) := rfl;cases x with
 | map r =>
   cases r with
   |none=>cases d <;> exact hp
   | some r =>
     have hm : Eqv P π (Value.pm π) (do match ← Go.getObj (π.f r) with | .map _ clock => (do let _ ← Go.setObj (π.f r) (.map #[] clock); Pure.pure (.tuple #[])) | _ => (do let _ ← (Go.stuck "clear: map expected" : Sem Unit); Pure.pure (.tuple #[])) : Sem Value)
      (do match ← Go.getObj r with | .map _ clock => (do let _ ← Go.setObj r (.map #[] clock); Pure.pure (.tuple #[])) | _ => (do let _ ← (Go.stuck "clear: map expected" : Sem Unit); Pure.pure (.tuple #[])) : Sem Value) := by
      refine Eqv.b Eqv.getObj fun o=>?_;cases o with
      |map es c=>exact Eqv.b (hα:=fun x=>x) (by have:=Eqv.setObj (P:=P) (π:=π) (r:=r) (o:=.map #[] c);simpa[Obj.pm] using this) fun _=>hp
      |_=>rfl
     simp only[qdr,yp];cases d <;> exact hm
 | slice a n c =>
   cases a with
   |none=>cases d <;> exact hp
   | some a =>
     cases n with
     |zero=>cases d <;> exact hp
     | succ n =>
       simp only[pm_slice,yp];cases d with
       | slice e =>
         refine Eqv.b (Eqv.zeroValue S) fun z=>?_;rw[qa2,qb6,yV];exact Eqv.b (Eqv.storeCells _ _) fun _=>hp
       |_=>exact hs
 |_=>cases d <;> exact hs
theorem Eqv.len{ts:Array TypeId}{ty:TypeId}{args:Array Value}:Eqv P π (Value.pm π) (Builtin.len_ ts ty (args.map (Value.pm π))) (Builtin.len_ ts ty args):=by
 unfold Builtin.len_;rw[yw];cases ts[0]? with
 |none=>exact Eqv.s _
 |some t=>
 cases args[0]? with
 |none=>exact Eqv.s _
 |some x=>
 simp only[yp];refine Eqv.b Eqv.n fun d=>?_;cases d with
 |string=>cases x <;> simp <;> first|exact Eqv.p (by simp)|exact Eqv.s _
 |array n e=>exact Eqv.p (by simp)
 | pointer arr =>
   refine Eqv.b Eqv.n fun d=>?_;cases d <;> first|exact Eqv.p (by simp)|exact Eqv.s _
 |slice e=>cases x <;> simp <;> first|exact Eqv.p (by simp)|exact Eqv.s _
 | map k e =>
   cases x with
   | map r =>
     cases r with
     |none=>exact Eqv.p (by simp)
     | some r =>
       simp only[qdr,yp];exact Eqv.b Eqv.getObj fun o=>by cases o <;> first|exact Eqv.p (by simp)|exact Eqv.s _
   |_=>exact Eqv.s _
 | chan a b =>
   cases x with
   | chan r =>
     cases r with
     |none=>exact Eqv.p (by simp)
     | some r =>
       simp only[ql4,yp];exact Eqv.b Eqv.getObj fun o=>by cases o <;> first|exact Eqv.p (by simp)|exact Eqv.s _
   |_=>exact Eqv.s _
 |_=>cases x <;> exact Eqv.s _
end
section
variable {P:Program}{π:Perm}{α β:Type}
theorem Eqv.intArith{op:BinOp}{k:IntKind}{x y:Int}:Eqv P π (Value.pm π) (Op.intArith op k x y) (Op.intArith op k x y):=by
 cases op <;> first|exact Eqv.p (by simp)|exact Eqv.s _
theorem Eqv.intBits{op:BinOp}{k:IntKind}{x y:Int}:Eqv P π (Value.pm π) (Op.intBits op k x y) (Op.intBits op k x y):=by
 cases op <;> first|exact Eqv.p (by simp)|exact Eqv.s _
theorem Eqv.intCmp{op:BinOp}{x y:Int}:Eqv P π (Value.pm π) (Op.intCmp op x y) (Op.intCmp op x y):=by
 cases op <;> first|exact Eqv.p (by simp)|exact Eqv.s _
theorem Eqv.floatArith{op:BinOp}{k:FloatKind}{x y:Nat}:Eqv P π (Value.pm π) (Op.floatArith op k x y) (Op.floatArith op k x y):=by
 unfold Op.floatArith;have hr:∀r:Option Nat,Eqv P π (Value.pm π) (match r with|some r=>Pure.pure (.float k r)|none=>(do Pure.pure (.float k (<-Go.choose (.nanBits k x y)))):Sem Value) (match r with|some r=>Pure.pure (.float k r)|none=>(do Pure.pure (.float k (<-Go.choose (.nanBits k x y)))):Sem Value):=by
  intro r;cases r with
  |none=>exact Eqv.b Eqv.choose fun _=>Eqv.p (by simp)
  |some r=>exact Eqv.p (by simp)
 cases op <;> first|exact Eqv.b (hα:=fun x=>x) (Eqv.p rfl) fun r=>hr r|exact Eqv.b (hα:=fun x=>x) (Eqv.s _) fun r=>hr r
theorem Eqv.floatCmp{op:BinOp}{k:FloatKind}{x y:Nat}:Eqv P π (Value.pm π) (Op.floatCmp op k x y) (Op.floatCmp op k x y):=by
 cases op <;> first|exact Eqv.p (by simp)|exact Eqv.s _
theorem Eqv.floatToFloat{s d:FloatKind}{x:Nat}:Eqv P π (Value.pm π) (Conv.floatToFloat s x d) (Conv.floatToFloat s x d):=by
 unfold Conv.floatToFloat
 refine Eqv.i yK (Eqv.p (by simp)) ?_;split
 ·exact Eqv.b Eqv.choose fun _=>Eqv.p (by simp)
 ·exact Eqv.p (by simp)
 ·exact Eqv.i yK (Eqv.b Eqv.choose fun _=>Eqv.p (by simp)) (Eqv.p (by simp))
theorem Eqv.a{op:BinOp}{k:FloatKind}{x y:Nat}:Eqv P π (fun x=>x) (Op.Complex.arith op k x y) (Op.Complex.arith op k x y):=
 Eqv.b Eqv.floatArith fun v=>by cases v <;> first|exact Eqv.p rfl|exact Eqv.s _
theorem Eqv.cCmp{op:BinOp}{k:FloatKind}{x y:Nat}:Eqv P π (fun x=>x) (Op.Complex.cmp op k x y) (Op.Complex.cmp op k x y):=
 Eqv.b Eqv.floatCmp fun _=>Eqv.asBool
theorem Eqv.cConv{s d:FloatKind}{x:Nat}:Eqv P π (fun x=>x) (Op.Complex.conv s x d) (Op.Complex.conv s x d):=by
 unfold Op.Complex.conv;exact Eqv.i yK (Eqv.p rfl) (Eqv.b Eqv.floatToFloat fun v=>by cases v <;> first|exact Eqv.p rfl|exact Eqv.s _)
theorem Eqv.product{a b c d:Nat}:Eqv P π (fun x=>x) (Op.Complex.product a b c d) (Op.Complex.product a b c d):=
 Eqv.b Eqv.a fun _=>Eqv.b Eqv.a fun _=>Eqv.b Eqv.a fun _=>Eqv.b Eqv.a fun _=>Eqv.b Eqv.a fun _=>Eqv.b Eqv.a fun _=>Eqv.p rfl
theorem Eqv.corrected{s a b c d:Nat}:Eqv P π (fun x=>x) (Op.Complex.corrected s a b c d) (Op.Complex.corrected s a b c d):=
 Eqv.b Eqv.a fun _=>Eqv.b Eqv.a fun _=>Eqv.b Eqv.a fun _=>Eqv.b Eqv.a fun _=>Eqv.b Eqv.a fun _=>Eqv.b Eqv.a fun _=>Eqv.b Eqv.a fun _=>Eqv.b Eqv.a fun _=>Eqv.p rfl
theorem Eqv.quotient{a b c d:Nat}:Eqv P π (fun x=>x) (Op.Complex.quotient a b c d) (Op.Complex.quotient a b c d):=by
 unfold Op.Complex.quotient;refine Eqv.b Eqv.cCmp fun t=>?_;have hj:∀ef:Nat × Nat,Eqv P π (fun x=>x) _ _:=fun ef=>Eqv.b (P:=P) (π:=π) (Eqv.cCmp (op:=.eql) (k:=.f64) (x:=c) (y:=0)) fun u=>Eqv.b (Eqv.cCmp (op:=.eql) (k:=.f64) (x:=d) (y:=0)) fun v=>
  Eqv.i (c:=(!(Op.Complex.isNaN ef.1 && Op.Complex.isNaN ef.2))=true) (c':=(!(Op.Complex.isNaN ef.1 && Op.Complex.isNaN ef.2))=true) yK (Eqv.p (a:=ef) (h:=fun x=>x) rfl)
   (Eqv.i (c:=((u && v) && (!Op.Complex.isNaN a || !Op.Complex.isNaN b))=true) (c':=((u && v) && (!Op.Complex.isNaN a || !Op.Complex.isNaN b))=true) yK
    (Eqv.b (Eqv.a (op:=.mul) (k:=.f64) (x:=Op.Complex.copysign Op.Complex.inf c) (y:=a)) fun p=>Eqv.b (Eqv.a (op:=.mul) (k:=.f64) (x:=Op.Complex.copysign Op.Complex.inf c) (y:=b)) fun q=>Eqv.p (a:=(p,q)) rfl)
    (Eqv.i (c:=((Op.Complex.isInf a || Op.Complex.isInf b) && Op.Complex.isFinite c && Op.Complex.isFinite d)=true) (c':=((Op.Complex.isInf a || Op.Complex.isInf b) && Op.Complex.isFinite c && Op.Complex.isFinite d)=true) yK
     (Eqv.corrected (s:=Op.Complex.inf) (a:=Op.Complex.inf2one a) (b:=Op.Complex.inf2one b) (c:=c) (d:=d))
     (Eqv.i (c:=((Op.Complex.isInf c || Op.Complex.isInf d) && Op.Complex.isFinite a && Op.Complex.isFinite b)=true) (c':=((Op.Complex.isInf c || Op.Complex.isInf d) && Op.Complex.isFinite a && Op.Complex.isFinite b)=true) yK
      (Eqv.corrected (s:=0) (a:=a) (b:=b) (c:=Op.Complex.inf2one c) (d:=Op.Complex.inf2one d)) (Eqv.p (a:=ef) rfl))))
 refine Eqv.i yK ?_ ?_
 ·exact Eqv.b Eqv.a fun _=>Eqv.b Eqv.a fun _=>Eqv.b Eqv.a fun _=>Eqv.b Eqv.a fun _=>Eqv.b Eqv.a fun _=>Eqv.b Eqv.a fun _=>Eqv.b Eqv.a fun _=>Eqv.b Eqv.a fun _=>Eqv.b Eqv.a fun _=>Eqv.b (hα:=fun x=>x) (Eqv.p rfl) fun ef=>hj ef
 ·exact Eqv.b Eqv.a fun _=>Eqv.b Eqv.a fun _=>Eqv.b Eqv.a fun _=>Eqv.b Eqv.a fun _=>Eqv.b Eqv.a fun _=>Eqv.b Eqv.a fun _=>Eqv.b Eqv.a fun _=>Eqv.b Eqv.a fun _=>Eqv.b Eqv.a fun _=>Eqv.b (hα:=fun x=>x) (Eqv.p rfl) fun ef=>hj ef
theorem Eqv.stringOp{op:BinOp}{x y:ByteArray}:Eqv P π (Value.pm π) (Op.stringOp op x y) (Op.stringOp op x y):=by
 unfold Op.stringOp;cases op <;> first|exact Eqv.p (by simp)|exact Eqv.s _|exact Eqv.i yK (Eqv.u _) (Eqv.p (by simp))
theorem Eqv.unary{op:UnOp}{x:Value}:Eqv P π (Value.pm π) (Op.unary op (x.pm π)) (Op.unary op x):=by
 cases x with
 |pointer a=>cases a <;> cases op <;> first|exact Eqv.u _|exact Eqv.s _
 |int k n=>simp only[qbd];cases op <;> simp only[Op.unary] <;> first|exact Eqv.intArith|exact Eqv.intBits|exact Eqv.s _
 |float k n=>cases op <;> first|exact Eqv.p (by simp)|exact Eqv.s _
 |complex k n m=>cases op <;> first|exact Eqv.p (by simp)|exact Eqv.s _
 |bool b=>cases op <;> first|exact Eqv.p (by simp)|exact Eqv.s _
 |_=>cases op <;> exact Eqv.s _
theorem Eqv.complexOp{op:BinOp}{k:FloatKind}{a b c d:Nat}:Eqv P π (Value.pm π) (Op.complexOp op k a b c d) (Op.complexOp op k a b c d):=by
 cases op with
 |add=>exact Eqv.b Eqv.a fun _=>Eqv.b Eqv.a fun _=>Eqv.p (by simp)
 |sub=>exact Eqv.b Eqv.a fun _=>Eqv.b Eqv.a fun _=>Eqv.p (by simp)
 |mul=>unfold Op.complexOp;exact Eqv.b Eqv.cConv fun _=>Eqv.b Eqv.cConv fun _=>Eqv.b Eqv.cConv fun _=>Eqv.b Eqv.cConv fun _=>Eqv.i yK (Eqv.b Eqv.product fun _=>Eqv.b Eqv.cConv fun _=>Eqv.b Eqv.cConv fun _=>Eqv.p (qce ..).symm) (Eqv.b Eqv.quotient fun _=>Eqv.b Eqv.cConv fun _=>Eqv.b Eqv.cConv fun _=>Eqv.p (qce ..).symm)
 |quo=>unfold Op.complexOp;exact Eqv.b Eqv.cConv fun _=>Eqv.b Eqv.cConv fun _=>Eqv.b Eqv.cConv fun _=>Eqv.b Eqv.cConv fun _=>Eqv.i yK (Eqv.b Eqv.product fun _=>Eqv.b Eqv.cConv fun _=>Eqv.b Eqv.cConv fun _=>Eqv.p (qce ..).symm) (Eqv.b Eqv.quotient fun _=>Eqv.b Eqv.cConv fun _=>Eqv.b Eqv.cConv fun _=>Eqv.p (qce ..).symm)
 |eql=>exact Eqv.b Eqv.cCmp fun _=>Eqv.b Eqv.cCmp fun _=>Eqv.p (by simp)
 |neq=>exact Eqv.b Eqv.cCmp fun _=>Eqv.b Eqv.cCmp fun _=>Eqv.p (by simp)
 |_=>exact Eqv.s _
end
section
variable {P:Program}{π:Perm}(S:Still P π){α β:Type}
include S
theorem Eqv.intDiv{op:BinOp}{k:IntKind}{x y:Int}:Eqv P π (Value.pm π) (Op.intDiv op k x y) (Op.intDiv op k x y):=by
 unfold Op.intDiv;refine Eqv.i yK (Eqv.r S _) ?_;cases op <;> first|exact Eqv.p (by simp)|exact Eqv.s _
theorem Eqv.shift{op:BinOp}{k k':IntKind}{x y:Int}:Eqv P π (Value.pm π) (Op.shift op k x k' y) (Op.shift op k x k' y):=by
 unfold Op.shift;refine Eqv.i yK (Eqv.r S _) ?_;cases op <;> first|exact Eqv.p (by simp)|exact Eqv.s _
omit S in
theorem Eqv.unsafeAdd{ts:Array TypeId}{t:TypeId}{x y:Value}:Eqv P π (Value.pm π) (Builtin.unsafeAdd_ ts t #[x.pm π,y.pm π]) (Builtin.unsafeAdd_ ts t #[x,y]):=by
 cases x with
 | pointer a =>
   rw[pm_pointer];unfold Builtin.unsafeAdd_;refine Eqv.b Eqv.asInt fun n=>?_;have hrest:Eqv P π (Value.pm π)
    (match (generalizing := false) a.map (Addr.pm π) with | some a => (do match ← Go.shape a.block with | some (e, cells) => (do let p ← program; match cellAtBytes p p.depth e (cells / p.cellsOf e) a.off n with | some off => Pure.pure (.pointer (some { a with off })) | none => Go.unsupported (.unsafePointer "Add")) | _ => Go.unsupported (.unsafePointer "Add")) | _ => Go.unsupported (.unsafePointer "Add") : Sem Value)
    (match (generalizing := false) a with | some a => (do match ← Go.shape a.block with | some (e, cells) => (do let p ← program; match cellAtBytes p p.depth e (cells / p.cellsOf e) a.off n with | some off => Pure.pure (.pointer (some { a with off })) | none => Go.unsupported (.unsafePointer "Add")) | _ => Go.unsupported (.unsafePointer "Add")) | _ => Go.unsupported (.unsafePointer "Add") : Sem Value) := by
    cases a with
    |none=>exact Eqv.u _
    | some a =>
      refine Eqv.b Eqv.shape fun o=>?_;cases o with
      |none=>exact Eqv.u _
      | some x =>
        refine Eqv.prog ?_;simp only[qa5];cases cellAtBytes P P.depth x.1 (x.2 / P.cellsOf x.1) a.off n with
        |none=>exact Eqv.u _
        |some o=>exact Eqv.p (by simp[Addr.pm])
   refine Eqv.i yK ?_ (Eqv.guard yK (Eqv.u _) hrest);cases a with
   |none=>exact Eqv.u _
   |some a=>exact Eqv.b Eqv.viewAt fun o=>Eqv.guard (by cases o <;> simp) (Eqv.u _) (Eqv.p (by simp))
 |_=>unfold Builtin.unsafeAdd_;exact Eqv.s _
omit S in
theorem Eqv.movedNumber{t:TypeId}{x y:Value}:Eqv P π (Value.pm π) (Go.movedNumber t (x.pm π) (y.pm π)) (Go.movedNumber t x y):=by
 unfold Go.movedNumber;refine Eqv.b Eqv.n fun d=>Eqv.guard yK (Eqv.u _) ?_;cases x with
 | pointer a =>
   cases a with
   |none=>exact Eqv.unsafeAdd (x:=.pointer none)
   | some n =>
     simp only[pm_pointer,yp];refine Eqv.b Eqv.h fun al=>?_;obtain⟨a,l⟩:=al;refine Eqv.b (hα:=Value.pm π) (by have:=Eqv.unsafeAdd (P:=P) (π:=π) (ts:=#[]) (t:=t) (x:=.pointer (some a)) (y:=y);simpa using this) fun v=>?_;cases v with
     |pointer b=>cases b <;> first|exact Eqv.asNumber|exact Eqv.p rfl
     |_=>exact Eqv.p rfl
 |_=>exact Eqv.unsafeAdd
omit S in
theorem Eqv.movedPointer{t:TypeId}{x y:Value}:Eqv P π (Value.pm π) (Go.movedPointer t (x.pm π) (y.pm π)) (Go.movedPointer t x y):=by
 unfold Go.movedPointer;cases x with
 | pointer a =>
   cases a with
   |none=>exact Eqv.unsafeAdd (x:=.pointer none)
   | some n =>
     simp only[pm_pointer,yp];exact Eqv.b Eqv.numberAt fun o=>Eqv.guard (by cases o <;> simp) (Eqv.u _) (by have:=Eqv.unsafeAdd (P:=P) (π:=π) (ts:=#[]) (t:=t) (x:=.pointer (some n)) (y:=y);simpa using this)
 |_=>exact Eqv.unsafeAdd
theorem Eqv.twoPlaces{a b:Addr}:Eqv P π (fun x=>x) (Op.twoPlaces (a.pm π) (b.pm π)) (Op.twoPlaces a b):=by
 unfold Op.twoPlaces;refine Eqv.prog ?_;have hl:=ql8 S a.block;exact Eqv.guard (by simp;rw[<-yan,<-yan,hl]) (Eqv.u _) (Eqv.b Eqv.byteOf fun _=>Eqv.b Eqv.byteOf fun _=>Eqv.p rfl)
theorem Eqv.addrSub{k:IntKind}{a b:Addr}:Eqv P π (Value.pm π) (Op.addrSub k (a.pm π) (b.pm π)) (Op.addrSub k a b):=Eqv.b (Eqv.twoPlaces S) fun _=>Eqv.p (by simp)
theorem Eqv.addrCmp{op:BinOp}{a b:Addr}:Eqv P π (Value.pm π) (Op.addrCmp op (a.pm π) (b.pm π)) (Op.addrCmp op a b):=
 Eqv.b (Eqv.twoPlaces S) fun _=>by cases op <;> first|exact Eqv.p (by simp)|exact Eqv.u _
omit S in
theorem Eqv.addrMod{k:IntKind}{a:Addr}{n:Int}:Eqv P π (Value.pm π) (Op.addrMod k (a.pm π) n) (Op.addrMod k a n):=by
 unfold Op.addrMod;refine Eqv.b Eqv.shape fun o=>?_;cases o with
 |none=>exact Eqv.u _
 |some x=>exact Eqv.b Eqv.typeInfo fun i=>Eqv.guard yK (Eqv.u _) (Eqv.b Eqv.byteOf fun b=>Eqv.p (by simp))
end
section
variable {P:Program}{π:Perm}{α β γ δ:Type}
theorem Eqv.und{h:γ->δ}{t:TypeId}{f:TypeDesc->Sem γ}{f':TypeDesc->Sem δ}(hf:∀d,P.underlying t=some d->Eqv P π h (f' d) (f d)):Eqv P π h (Go.underlying t >>= f') (Go.underlying t >>= f):=by
 cases hd:P.underlying t with
 |none=>simp[Eqv,Go.underlying,program,Bind.bind,Sem.bind,Sem.over,hd,Go.stuck,Sem.act,Halt.pm,Halt.er]
 | some d =>
   have:=hf d hd;simpa[Eqv,Go.underlying,program,Bind.bind,Sem.bind,Sem.over,hd,Pure.pure] using this
theorem Eqv.stringToBytes{t:TypeId}{s:ByteArray}:Eqv P π (Value.pm π) (Conv.stringToBytes t s) (Conv.stringToBytes t s):=by
 unfold Conv.stringToBytes;refine Eqv.b Eqv.choose fun cap=>?_;have:=Eqv.newRow (P:=P) (π:=π) (t:=t) (cs:=(s.data.map fun b=>(Value.int .u8 b.toNat))++Array.replicate (cap - s.size) (.int .u8 0));simp only[ya2,Array.map_map,Function.comp_def,qbd,Array.map_replicate] at this;exact Eqv.b this fun a=>Eqv.b Eqv.markStringish fun _=>Eqv.p (by simp)
theorem qdu(s:ByteArray):∀(n i:Nat) (acc:Array Value),(Conv.runesFrom s n i acc).map (Value.pm π)=Conv.runesFrom s n i (acc.map (Value.pm π))
 |0,_,_=>rfl
 | n + 1, i, acc => by
   unfold Conv.runesFrom;split
   ·rw[qdu s n];simp
   ·rfl
theorem Eqv.stringToRunes{t:TypeId}{s:ByteArray}:Eqv P π (Value.pm π) (Conv.stringToRunes t s) (Conv.stringToRunes t s):=by
 unfold Conv.stringToRunes;refine Eqv.b Eqv.choose fun cap=>?_;have:=Eqv.newRow (P:=P) (π:=π) (t:=t) (cs:=Conv.runesFrom s s.size 0 #[]++Array.replicate (cap - (Conv.runesFrom s s.size 0 #[]).size) (.int .i32 0));simp only[ya2,qdu,qbd,Array.map_replicate,yas,yaK] at this;exact Eqv.b this fun a=>Eqv.p (by simp)
theorem Eqv.forInPm{σ:Type}{f f':Value->σ->Sem (ForInStep σ)}(hf:∀i s,Eqv P π (fun x=>x) (f' (i.pm π) s) (f i s))(l:Array Value)(s:σ):Eqv P π (fun x=>x) (ForIn.forIn (l.map (Value.pm π)) s f') (ForIn.forIn l s f):=by
 rw[<-ybi,<-ybi,yV];generalize l.toList=l;induction l generalizing s with
 |nil=>simp only[yaK,List.forIn_nil];exact Eqv.p rfl
 | cons x l ih =>
   simp only[yN,List.forIn_cons];refine Eqv.b (hf x s) fun r=>?_;cases r with
   |done a=>exact Eqv.p rfl
   |yield a=>exact ih a
theorem Eqv.bytesToString{x:Value}:Eqv P π (Value.pm π) (Conv.bytesToString (x.pm π)) (Conv.bytesToString x):=by
 unfold Conv.bytesToString;cases x with
 | slice a l c =>
   cases a with
   |none=>exact Eqv.p (by simp)
   | some a =>
     refine Eqv.b Eqv.loadCells fun cs=>Eqv.b (Eqv.forInPm (fun v s=>?_) _ _) fun s=>Eqv.p (by simp);cases v with
     |int k n=>cases k <;> first|exact Eqv.p rfl|exact Eqv.b (hα:=fun x=>x) (Eqv.s _) fun _=>Eqv.p rfl|exact Eqv.s _
     |_=>exact Eqv.s _
 |_=>exact Eqv.s _
theorem Eqv.runesToString{x:Value}:Eqv P π (Value.pm π) (Conv.runesToString (x.pm π)) (Conv.runesToString x):=by
 unfold Conv.runesToString;cases x with
 | slice a l c =>
   cases a with
   |none=>exact Eqv.p (by simp)
   | some a =>
     refine Eqv.b Eqv.loadCells fun cs=>Eqv.b (Eqv.forInPm (fun v s=>?_) _ _) fun s=>Eqv.p (by simp);cases v with
     |int k n=>cases k <;> first|exact Eqv.p rfl|exact Eqv.s _
     |_=>exact Eqv.s _
 |_=>exact Eqv.s _
theorem Eqv.floatToInt{s:FloatKind}{b:Nat}{d:IntKind}:Eqv P π (Value.pm π) (Conv.floatToInt s b d) (Conv.floatToInt s b d):=by
 unfold Conv.floatToInt;have ha:Eqv P π (Value.pm π) (do Pure.pure (.int d (d.wrap (<-Go.choose (.floatToInt s b d)))):Sem Value) (do Pure.pure (.int d (d.wrap (<-Go.choose (.floatToInt s b d)))):Sem Value):=Eqv.b Eqv.choose fun _=>Eqv.p (by simp);cases (s.decode b).toInt .zero with
 |none=>exact ha
 |some n=>exact Eqv.i yK (Eqv.p (by simp)) ha
theorem Eqv.complexToComplex{s d:FloatKind}{a b:Nat}:Eqv P π (Value.pm π) (Conv.complexToComplex s a b d) (Conv.complexToComplex s a b d):=by
 unfold Conv.complexToComplex;refine Eqv.b Eqv.floatToFloat fun v=>?_;cases v with
 | float k n =>
   refine Eqv.b Eqv.floatToFloat fun v=>?_;cases v with
   |float k n=>exact Eqv.p (by simp)
   |_=>exact Eqv.s _
 |_=>exact Eqv.s _
def safeConv(P:Program)(src dst:TypeId):Prop:=P.underlying src≠some .unsafePointer/\P.underlying dst≠some .unsafePointer
theorem Eqv.convert{src dst:TypeId}{x:Value}(ok:safeConv P src dst):Eqv P π (Value.pm π) (Go.convert src dst (x.pm π)) (Go.convert src dst x):=by
 unfold Go.convert;refine Eqv.und fun s hs=>Eqv.und fun d hd=>?_;have h1:s≠.unsafePointer:=fun e=>ok.1 (e▸hs);have h2:d≠.unsafePointer:=fun e=>ok.2 (e▸hd);cases d with
 |unsafePointer=>exact absurd rfl h2
 | int k =>
   cases x with
   |int k' n=>exact Eqv.p (by simp)
   |float k' n=>exact Eqv.floatToInt
   |pointer a=>cases a <;> cases s <;> first|exact absurd rfl h1|exact Eqv.u _
   |_=>cases s <;> first|exact absurd rfl h1|exact Eqv.u _
 | float k =>
   cases x with
   |int k' n=>exact Eqv.p (by simp)
   |float k' n=>exact Eqv.floatToFloat
   |pointer a=>cases a <;> cases s <;> first|exact absurd rfl h1|exact Eqv.u _
   |_=>cases s <;> first|exact absurd rfl h1|exact Eqv.u _
 | complex k =>
   cases x with
   |complex k' a b=>exact Eqv.complexToComplex
   |pointer a=>cases a <;> cases s <;> first|exact absurd rfl h1|exact Eqv.u _
   |_=>cases s <;> first|exact absurd rfl h1|exact Eqv.u _
 | string =>
   have hsl : ∀ (e : TypeId) (x : Value), Eqv P π (Value.pm π) (do match ← Go.underlying e with | .int .u8 => Conv.bytesToString (x.pm π) | .int .i32 => Conv.runesToString (x.pm π) | _ => Go.stuck "Convert: a slice of what to string?" : Sem Value)
    (do match ← Go.underlying e with | .int .u8 => Conv.bytesToString x | .int .i32 => Conv.runesToString x | _ => Go.stuck "Convert: a slice of what to string?" : Sem Value) := fun e x =>
    Eqv.b Eqv.n fun d=>by
     cases d with
     |int k=>cases k <;> first|exact Eqv.bytesToString|exact Eqv.runesToString|exact Eqv.s _
     |_=>exact Eqv.s _
   cases x with
   |int k' n=>exact Eqv.p (by simp)
   |string s=>exact Eqv.p (by simp)
   |pointer a=>cases a <;> cases s <;> first|exact absurd rfl h1|exact Eqv.u _|exact hsl _ (.pointer _)
   |bool b=>cases s <;> first|exact absurd rfl h1|exact Eqv.u _|exact hsl _ (.bool _)
   |float b c=>cases s <;> first|exact absurd rfl h1|exact Eqv.u _|exact hsl _ (.float _ _)
   |complex b c d=>cases s <;> first|exact absurd rfl h1|exact Eqv.u _|exact hsl _ (.complex _ _ _)
   |slice b c d=>cases s <;> first|exact absurd rfl h1|exact Eqv.u _|exact hsl _ (.slice _ _ _)
   |map b=>cases s <;> first|exact absurd rfl h1|exact Eqv.u _|exact hsl _ (.map _)
   |chan b=>cases s <;> first|exact absurd rfl h1|exact Eqv.u _|exact hsl _ (.chan _)
   |func b c d=>cases s <;> first|exact absurd rfl h1|exact Eqv.u _|exact hsl _ (.func _ _ _)
   |nilFunc=>cases s <;> first|exact absurd rfl h1|exact Eqv.u _|exact hsl _ .nilFunc
   |iface b c=>cases s <;> first|exact absurd rfl h1|exact Eqv.u _|exact hsl _ (.iface _ _)
   |nilIface=>cases s <;> first|exact absurd rfl h1|exact Eqv.u _|exact hsl _ .nilIface
   |agg b=>cases s <;> first|exact absurd rfl h1|exact Eqv.u _|exact hsl _ (.agg _)
   |tuple b=>cases s <;> first|exact absurd rfl h1|exact Eqv.u _|exact hsl _ (.tuple _)
 | slice e =>
   cases x with
   | string t =>
     refine Eqv.b Eqv.n fun d=>?_;cases d with
     |int k=>cases k <;> first|exact Eqv.stringToBytes|exact Eqv.stringToRunes|exact Eqv.s _
     |_=>exact Eqv.s _
   | slice a l c =>
     cases a with
     |none=>cases s <;> first|exact absurd rfl h1|exact Eqv.u _
     | some a =>
       simp only[pm_slice,yp];cases s with
       |unsafePointer=>exact absurd rfl h1
       | slice e' =>
         refine Eqv.b Eqv.n fun d=>?_;cases src == dst with
         |false=>exact Eqv.u _
         | true =>
           cases d with
           |int k=>cases k <;> first|exact Eqv.b Eqv.markStringish fun _=>Eqv.p (by simp)|exact Eqv.u _
           |_=>exact Eqv.u _
       |_=>exact Eqv.u _
   |pointer a=>cases a <;> cases s <;> first|exact absurd rfl h1|exact Eqv.u _
   |_=>cases s <;> first|exact absurd rfl h1|exact Eqv.u _
 | _ =>
   cases x with
   |pointer a=>cases a <;> cases s <;> first|exact absurd rfl h1|exact Eqv.u _
   |_=>cases s <;> first|exact absurd rfl h1|exact Eqv.u _
end
section
variable {P:Program}{π:Perm}(S:Still P π){α β:Type}
include S
theorem Eqv.binPP{op:BinOp}{t:TypeId}{a b:Option Addr}:Eqv P π (Value.pm π) (Go.binOp op t (.pointer (a.map (Addr.pm π))) (.pointer (b.map (Addr.pm π)))) (Go.binOp op t (.pointer a) (.pointer b)):=by
 unfold Go.binOp;have he:=Eqv.equalIn S Op.maxDepth t (.pointer a) (.pointer b);simp only[pm_pointer] at he;cases op with
 |eql=>exact Eqv.b he fun _=>Eqv.p (by simp)
 |neq=>exact Eqv.b he fun _=>Eqv.p (by simp)
 |sub=>cases a <;> cases b <;> first|exact Eqv.u _|exact Eqv.b Eqv.h fun _=>Eqv.b Eqv.h fun _=>Eqv.addrSub S
 |lss=>cases a <;> cases b <;> first|exact Eqv.u _|exact Eqv.b Eqv.h fun _=>Eqv.b Eqv.h fun _=>Eqv.addrCmp S
 |leq=>cases a <;> cases b <;> first|exact Eqv.u _|exact Eqv.b Eqv.h fun _=>Eqv.b Eqv.h fun _=>Eqv.addrCmp S
 |gtr=>cases a <;> cases b <;> first|exact Eqv.u _|exact Eqv.b Eqv.h fun _=>Eqv.b Eqv.h fun _=>Eqv.addrCmp S
 |geq=>cases a <;> cases b <;> first|exact Eqv.u _|exact Eqv.b Eqv.h fun _=>Eqv.b Eqv.h fun _=>Eqv.addrCmp S
 |_=>cases a <;> cases b <;> exact Eqv.u _
end
section
variable {P:Program}{π:Perm}(S:Still P π){α β:Type}
include S
theorem Eqv.binPI{op:BinOp}{t:TypeId}{a:Option Addr}{k:IntKind}{n:Int}:Eqv P π (Value.pm π) (Go.binOp op t (.pointer (a.map (Addr.pm π))) (.int k n)) (Go.binOp op t (.pointer a) (.int k n)):=by
 unfold Go.binOp;have he:=Eqv.equalIn S Op.maxDepth t (.pointer a) (.int k n);have hm:=fun m=>Eqv.movedNumber (P:=P) (π:=π) (t:=t) (x:=.pointer a) (y:=.int k m);have hp:=Eqv.movedPointer (P:=P) (π:=π) (t:=t) (x:=.pointer a) (y:=.int k n);simp only[pm_pointer,qbd] at he hm hp;cases op with
 |eql=>exact Eqv.b he fun _=>Eqv.p (by simp)
 |neq=>exact Eqv.b he fun _=>Eqv.p (by simp)
 |add=>exact Eqv.b Eqv.n fun d=>Eqv.i yK hp (hm n)
 |sub=>cases a <;> exact hm (-n)
 |rem=>cases a <;> first|exact Eqv.u _|exact Eqv.b Eqv.h fun _=>Eqv.addrMod
 |and=>cases a <;> first|exact Eqv.u _|exact Eqv.b Eqv.h fun _=>Eqv.addrMod
 |_=>cases a <;> exact Eqv.u _
theorem Eqv.binIP{op:BinOp}{t:TypeId}{a:Option Addr}{k:IntKind}{n:Int}:Eqv P π (Value.pm π) (Go.binOp op t (.int k n) (.pointer (a.map (Addr.pm π)))) (Go.binOp op t (.int k n) (.pointer a)):=by
 unfold Go.binOp;have he:=Eqv.equalIn S Op.maxDepth t (.int k n) (.pointer a);have hm:=Eqv.movedNumber (P:=P) (π:=π) (t:=t) (x:=.pointer a) (y:=.int k n);simp only[pm_pointer,qbd] at he hm;cases op with
 |eql=>exact Eqv.b he fun _=>Eqv.p (by simp)
 |neq=>exact Eqv.b he fun _=>Eqv.p (by simp)
 |add=>exact hm
 |and=>cases a <;> first|exact Eqv.u _|exact Eqv.b Eqv.h fun _=>Eqv.addrMod
 |_=>cases a <;> exact Eqv.u _
theorem Eqv.binII{op:BinOp}{t:TypeId}{k k':IntKind}{n m:Int}:Eqv P π (Value.pm π) (Go.binOp op t (.int k n) (.int k' m)) (Go.binOp op t (.int k n) (.int k' m)):=by
 unfold Go.binOp;cases op with
 |shl=>exact Eqv.shift S
 |shr=>exact Eqv.shift S
 |_=>refine Eqv.i yK (Eqv.s _) ?_;first|exact Eqv.intArith|exact Eqv.intDiv S|exact Eqv.intBits|exact Eqv.intCmp
theorem Eqv.binOp{op:BinOp}{t:TypeId}{x y:Value}:Eqv P π (Value.pm π) (Go.binOp op t (x.pm π) (y.pm π)) (Go.binOp op t x y):=by
 have he:=Eqv.equalIn S Op.maxDepth t x y;cases x with
 | int k n =>
   cases y with
   |int k' m=>simp only[qbd];exact Eqv.binII S
   |pointer a=>simp only[qbd,pm_pointer];exact Eqv.binIP S
   |_=>unfold Go.binOp;cases op <;> first|exact Eqv.b he fun _=>Eqv.p (by simp)|exact Eqv.s _
 | pointer a =>
   cases y with
   |int k' m=>simp only[qbd,pm_pointer];exact Eqv.binPI S
   |pointer b=>simp only[pm_pointer];exact Eqv.binPP S
   |_=>unfold Go.binOp;cases op <;> first|exact Eqv.b he fun _=>Eqv.p (by simp)|exact Eqv.u _|cases a <;> exact Eqv.u _
 | float k n =>
   cases y with
   |float k' m=>unfold Go.binOp;cases op <;> refine Eqv.i yK (Eqv.s _) ?_ <;> first|exact Eqv.floatArith|exact Eqv.floatCmp
   |pointer b=>unfold Go.binOp;cases op <;> first|exact Eqv.b he fun _=>Eqv.p (by simp)|exact Eqv.u _|cases b <;> exact Eqv.u _
   |_=>unfold Go.binOp;cases op <;> first|exact Eqv.b he fun _=>Eqv.p (by simp)|exact Eqv.s _
 | complex k n m =>
   cases y with
   |complex k' u v=>unfold Go.binOp;cases op <;> exact Eqv.i yK (Eqv.s _) Eqv.complexOp
   |pointer b=>unfold Go.binOp;cases op <;> first|exact Eqv.b he fun _=>Eqv.p (by simp)|exact Eqv.u _|cases b <;> exact Eqv.u _
   |_=>unfold Go.binOp;cases op <;> first|exact Eqv.b he fun _=>Eqv.p (by simp)|exact Eqv.s _
 | string s =>
   cases y with
   |string s'=>unfold Go.binOp;simp only[qef];cases op <;> exact Eqv.stringOp
   |pointer b=>unfold Go.binOp;cases op <;> first|exact Eqv.b he fun _=>Eqv.p (by simp)|exact Eqv.u _|cases b <;> exact Eqv.u _
   |_=>unfold Go.binOp;cases op <;> first|exact Eqv.b he fun _=>Eqv.p (by simp)|exact Eqv.s _
 | _ =>
   cases y with
   |pointer b=>unfold Go.binOp;cases op <;> first|exact Eqv.b he fun _=>Eqv.p (by simp)|exact Eqv.u _|cases b <;> exact Eqv.u _
   |_=>unfold Go.binOp;cases op <;> first|exact Eqv.b he fun _=>Eqv.p (by simp)|exact Eqv.s _
end
section
variable {P:Program}{π:Perm}{α β:Type}
theorem Eqv.eqGuard{op:BinOp}{t:TypeId}{x y:Operand}{a b:Value}:Eqv P π (fun x=>x) (Go.eqGuard op t x y (a.pm π) (b.pm π)) (Go.eqGuard op t x y a b):=by
 unfold Go.eqGuard;refine Eqv.i yK (Eqv.p rfl) ?_;cases a with
 | nilIface =>
   cases b with
   | nilIface =>
     refine Eqv.i yK (Eqv.p rfl) ?_;exact Eqv.b (Eqv.eqGuardIn _ _ .nilIface .nilIface) fun b=>Eqv.i yK (Eqv.u _) (Eqv.p rfl)
   |_=>exact Eqv.p rfl
 | agg xs =>
   cases b with
   | agg ys =>
     refine Eqv.prog (Eqv.prog (Eqv.i yK (Eqv.p rfl) ?_));have:=Eqv.eqGuardIn (P:=P) (π:=π) Op.maxDepth t (.agg xs) (.agg ys);exact Eqv.b this fun b=>Eqv.i yK (Eqv.u _) (Eqv.p rfl)
   |_=>exact Eqv.p rfl
 |_=>exact Eqv.p rfl
theorem Eqv.max2{x y:Value}:Eqv P π (Value.pm π) (Builtin.max2 (x.pm π) (y.pm π)) (Builtin.max2 x y):=by
 cases x with
 | int k n => cases y with
   |int k' m=>exact Eqv.p (by simp)
   |pointer a=>cases a <;> first|exact Eqv.u _|exact Eqv.s _
   |_=>exact Eqv.s _
 | float k n => cases y with
   | float k' m =>
     simp only[qkd,Builtin.max2];split
     ·exact Eqv.b Eqv.choose fun _=>Eqv.p (by simp)
     all_goals exact Eqv.p (by simp)
   |pointer a=>cases a <;> first|exact Eqv.u _|exact Eqv.s _
   |_=>exact Eqv.s _
 | string s => cases y with
   |string s'=>exact Eqv.b Eqv.stringOp fun v=>Eqv.b Eqv.asBool fun b=>Eqv.p (by simp)
   |pointer a=>cases a <;> first|exact Eqv.u _|exact Eqv.s _
   |_=>exact Eqv.s _
 |pointer a=>cases a <;> cases y <;> first|exact Eqv.u _|exact Eqv.s _|(rename_i b;cases b <;> first|exact Eqv.u _|exact Eqv.s _)
 |_=>cases y <;> first|exact Eqv.s _|(rename_i b;cases b <;> first|exact Eqv.u _|exact Eqv.s _)
theorem Eqv.min2{x y:Value}:Eqv P π (Value.pm π) (Builtin.min2 (x.pm π) (y.pm π)) (Builtin.min2 x y):=by
 cases x with
 | int k n => cases y with
   |int k' m=>exact Eqv.p (by simp)
   |pointer a=>cases a <;> first|exact Eqv.u _|exact Eqv.s _
   |_=>exact Eqv.s _
 | float k n => cases y with
   | float k' m =>
     simp only[qkd,Builtin.min2];split
     ·exact Eqv.b Eqv.choose fun _=>Eqv.p (by simp)
     all_goals exact Eqv.p (by simp)
   |pointer a=>cases a <;> first|exact Eqv.u _|exact Eqv.s _
   |_=>exact Eqv.s _
 | string s => cases y with
   |string s'=>exact Eqv.b Eqv.stringOp fun v=>Eqv.b Eqv.asBool fun b=>Eqv.p (by simp)
   |pointer a=>cases a <;> first|exact Eqv.u _|exact Eqv.s _
   |_=>exact Eqv.s _
 |pointer a=>cases a <;> cases y <;> first|exact Eqv.u _|exact Eqv.s _|(rename_i b;cases b <;> first|exact Eqv.u _|exact Eqv.s _)
 |_=>cases y <;> first|exact Eqv.s _|(rename_i b;cases b <;> first|exact Eqv.u _|exact Eqv.s _)
theorem Eqv.foldlM{f f':Value->Value->Sem Value}(hf:∀x y,Eqv P π (Value.pm π) (f' (x.pm π) (y.pm π)) (f x y)):∀(l:List Value) (x:Value),Eqv P π (Value.pm π) ((l.map (Value.pm π)).foldlM f' (x.pm π)) (l.foldlM f x)
 |[],x=>Eqv.p rfl
 | y :: l, x => by
   simp only[yN,List.foldlM_cons];exact Eqv.b (hf x y) fun z=>Eqv.foldlM hf l z
theorem Eqv.max{ts:Array TypeId}{ty:TypeId}{args:Array Value}:Eqv P π (Value.pm π) (Builtin.max_ ts ty (args.map (Value.pm π))) (Builtin.max_ ts ty args):=by
 unfold Builtin.max_;rw[yV];cases args.toList with
 |nil=>exact Eqv.s _
 |cons x l=>exact Eqv.foldlM (fun _ _=>Eqv.max2) l x
theorem Eqv.min{ts:Array TypeId}{ty:TypeId}{args:Array Value}:Eqv P π (Value.pm π) (Builtin.min_ ts ty (args.map (Value.pm π))) (Builtin.min_ ts ty args):=by
 unfold Builtin.min_;rw[yV];cases args.toList with
 |nil=>exact Eqv.s _
 |cons x l=>exact Eqv.foldlM (fun _ _=>Eqv.min2) l x
end
def _root_.Go.Place.pm(π:Perm):Place->Place
 |.val v=>.val (v.pm π)
 |.var a=>.var (a.pm π)
section
variable {P:Program}{π:Perm}{α β:Type}
theorem Eqv.get{t:TypeId}{x:Place}:Eqv P π (Value.pm π) (Place.get t (x.pm π)) (Place.get t x):=by
 cases x with
 |val v=>exact Eqv.p rfl
 |var a=>exact Eqv.loadVar
end
section
variable {P:Program}{π:Perm}(S:Still P π){α β:Type}
include S
theorem Eqv.follow:∀(l:List FieldStep) (t:TypeId) (x:Place),Eqv P π (fun y=>(y.1,y.2.pm π)) (Go.follow l t (x.pm π)) (Go.follow l t x)
 |[],_,_=>Eqv.p rfl
 | s :: l, t, x => by
   unfold Go.follow;refine Eqv.b Eqv.n fun d=>?_;cases d with
   | struct fields =>
     dsimp only;cases fields[s.index]? with
     |none=>exact Eqv.s _
     | some f =>
       refine Eqv.i yK (Eqv.b Eqv.get fun v=>Eqv.b (Eqv.asAddr S) fun a=>Eqv.b Eqv.fieldPlace fun b=>Eqv.follow l f.type (.var b)) ?_;cases x with
       |var a=>exact Eqv.b Eqv.fieldPlace fun b=>Eqv.follow l f.type (.var b)
       | val v =>
         cases v with
         |agg cs=>exact Eqv.b (hα:=Value.pm π) (by rw[qbk];exact Eqv.part) fun v=>Eqv.follow l f.type (.val v)
         |_=>exact Eqv.s _
   |_=>exact Eqv.s _
theorem Eqv.wrapNil{ts:Array TypeId}{t:TypeId}{p:Value}{a b:String}:Eqv P π (Value.pm π) (Builtin.ssaWrapNilChk_ ts t #[p.pm π,strVal a,strVal b]) (Builtin.ssaWrapNilChk_ ts t #[p,strVal a,strVal b]):=by
 unfold Builtin.ssaWrapNilChk_ strVal;cases p with
 | pointer x =>
   cases x with
   |some a=>exact Eqv.p rfl
   | none =>
     refine Eqv.b Eqv.choose fun c=>Eqv.guard yK (Eqv.r S _) ?_;cases ts[0]? with
     |none=>exact Eqv.s _
     | some pt =>
       refine Eqv.b Eqv.n fun d=>?_;cases d with
       | pointer e =>
         refine Eqv.b Eqv.typeInfo fun i=>?_;dsimp only;cases i.desc with
         | named n u =>
           dsimp only;cases String.fromUTF8? b.toUTF8 with
           |none=>exact Eqv.s _
           | some m =>
             dsimp only;split
             ·exact Eqv.r S _
             ·exact Eqv.u _
         |_=>exact Eqv.s _
       |_=>exact Eqv.s _
 |_=>exact Eqv.s _
theorem Eqv.receiverAt{t:TypeId}{x:Place}{b:Bool}{w:Option String}:Eqv P π (Value.pm π) (Go.receiverAt t (x.pm π) b w) (Go.receiverAt t x b w):=by
 unfold Go.receiverAt;refine Eqv.b Eqv.n fun d=>?_;cases d with
 | pointer e =>
   cases b with
   |true=>exact Eqv.get
   | false =>
     refine Eqv.b Eqv.get fun p=>?_;cases w with
     |none=>exact Eqv.b (hα:=Value.pm π) (Eqv.p rfl) fun p=>Eqv.b (Eqv.asAddr S) fun a=>Eqv.loadVar
     |some n=>exact Eqv.b (Eqv.wrapNil S) fun p=>Eqv.b (Eqv.asAddr S) fun a=>Eqv.loadVar
 | _ =>
   cases b with
   |true=>cases x <;> first|exact Eqv.p (by simp)|exact Eqv.s _
   |false=>exact Eqv.get
theorem Eqv.method:∀(n:Nat) (t:TypeId) (v:Value) (name:String),Eqv P π (fun y=>(y.1,y.2.pm π)) (Go.method n t (v.pm π) name) (Go.method n t v name)
 |0,_,_,_=>Eqv.u _
 | n + 1, t, v, name => by
   unfold Go.method;refine Eqv.b Eqv.typeInfo fun i=>?_;dsimp only;cases i.methods.find? (·.name == name) with
   |none=>exact Eqv.s _
   | some m =>
     refine Eqv.b (Eqv.follow S _ _ (.val v)) fun y=>?_;dsimp only;cases m.func with
     | none =>
       refine Eqv.b Eqv.get fun v=>?_;cases v with
       |iface t' v'=>exact Eqv.method n t' v' name
       |nilIface=>exact Eqv.r S _
       |_=>exact Eqv.s _
     |some fp=>exact Eqv.b (Eqv.receiverAt S) fun r=>Eqv.p rfl
end
def Plain(P:Program)(π:Perm)(v:Value):Prop:=∀fn a b,v=.func fn a b->∃f fd,fn=.func f/\π.g f=f/\P.funcs[f]?=some fd/\fd.body.isSome=true
section
variable {P:Program}{π:Perm}(S:Still P π){α β:Type}
theorem Eqv.callFunc{f:FuncId}{args:Array Value}{fd:Func}(hg:π.g f=f)(hf:P.funcs[f]?=some fd)(hb:fd.body.isSome=true):Eqv P π (Next.pm π) (Go.callFunc f (args.map (Value.pm π))) (Go.callFunc f args):=by
 unfold Go.callFunc;refine Eqv.prog ?_;rw[hf];have hn:¬fd.body.isNone=true:=by cases hx:fd.body <;> simp_all
 refine Eqv.i yK (Eqv.p rfl) ?_;rw[if_neg hn,if_neg hn];exact Eqv.p (by simp[Next.pm,hg])
end
end
end Go.Pm
