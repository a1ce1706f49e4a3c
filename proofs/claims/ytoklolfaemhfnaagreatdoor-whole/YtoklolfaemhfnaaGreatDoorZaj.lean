import Derived.Conc.CompanyDraw
import Derived.Conc.DeferLaws
import Derived.Test.YtoklolfaemhfnaaGreatDoorZah
import Derived.Test.YtoklolfaemhfnaaGreatDoorZai
set_option maxRecDepth 100000
set_option maxHeartbeats 8000000
namespace Go.Cr
section
open Go Go.Conc
open Go.Pm (Rely Guar Ev grow)
section
variable {P:Program}{main:Bool}{K:Nat->Prop}{A:World->Prop}{X:Event->Prop}{Stop:(Nat->Prop)->Goroutine->World->Prop}{O:Nat->Prop}{g:Goroutine}{w:World}
theorem qdj(hrun:g.status=.running)(h:∀wB,Rely O K A w wB->∃g' w' es,stepG P main g wB=.go g' w' es/\Guar O K X wB w' es/\Go.Pm.Way P main K A X Stop (grow O wB w') g' w'):Go.Pm.Way P main K A X Stop O g w:=by
 refine .step hrun (fun wB h₁=>?_) fun wB g' w' es h₁ he=>?_
 ·obtain⟨g',w',es,e1,e2,_⟩:=h wB h₁;exact⟨g',w',es,e1,e2⟩
 ·obtain⟨g'',w'',es',e1,_,e3⟩:=h wB h₁;rw[e1] at he;obtain⟨rfl,rfl,_⟩:=qj he;exact e3
theorem qc{g':Goroutine}(hrun:g.status=.running)(h:∀wB,stepG P main g wB=.go g' wB)(k:Go.Pm.Way P main K A X Stop O g' w):Go.Pm.Way P main K A X Stop O g w:=
 qdj hrun fun wB h₁=>⟨g',wB,#[],h wB,Go.Pm.guar_still (by simp),by rw[Go.Pm.grow_same O rfl];exact k.rely h₁⟩
theorem qc4{fn:FuncId}{w w':World}{es:Array Event}(h:Guar O K X w w' es):Guar O K X w w' (seen P fn es):=⟨h.frame,h.size,h.tape,h.os,fun e he=>h.evs e (Go.Pm.seen_sub P fn es e he)⟩
variable {b:Frame}{a:Act}{k:List Item}{cs:List Frame}{ops:Array Oper}{i:Nat}{rest:List Nat}{o:Oper}
theorem qb{v:Value}(ho:ops[i]?=some o)(hw:Region.wanted o (yielded ops a.tmps)=true)(hk:b.kind≠.early)
 (hr:∀wB,Rely O K A w wB->(execOp a.eval o).run P wB=.ok (.value v) wB/\∀e∈(execOp a.eval o).events P wB #[],Ev O K e)
 (h:Go.Pm.Way P main K A X Stop O (G (b.at (a.put o.dst v) (.inRegion ops rest::k)) cs) w):Go.Pm.Way P main K A X Stop O (G (b.at a (.inRegion ops (i::rest)::k)) cs) w:=
 qdj rfl fun wB h₁=>⟨_,wB,_,stepG_value ho hw hk (hr wB h₁).1,qc4 (Go.Pm.guar_still fun e he=>.inl ((hr wB h₁).2 e he)),by rw[Go.Pm.grow_same O rfl];exact h.rely h₁⟩
theorem qr(ho:ops[i]?=some o)(hw:Region.wanted o (yielded ops a.tmps)=false)
 (h:Go.Pm.Way P main K A X Stop O (G (b.at (a.put o.dst undef) (.inRegion ops rest::k)) cs) w):Go.Pm.Way P main K A X Stop O (G (b.at a (.inRegion ops (i::rest)::k)) cs) w:=
 qc rfl (fun _=>stepG_unwanted ho hw) h
theorem qmo{f:FuncId}{args:Array Value}(ho:ops[i]?=some o)(hw:Region.wanted o (yielded ops a.tmps)=true)(hk:b.kind≠.early)
 (hr:∀wB,(execOp a.eval o).run P wB=.ok (.enter f args) wB/\(execOp a.eval o).events P wB #[]=#[])
 (h:Go.Pm.Way P main K A X Stop O (G (Frame.enter P f args .normal) (b.at a (.inRegion ops (i::rest)::k)::cs)) w):Go.Pm.Way P main K A X Stop O (G (b.at a (.inRegion ops (i::rest)::k)) cs) w:=
 qdj rfl fun wB h₁=>⟨_,wB,_,stepG_enter ho hw hk (hr wB).1,qc4 (Go.Pm.guar_still fun e he=>by rw[(hr wB).2] at he;simp at he),by rw[Go.Pm.grow_same O rfl];exact h.rely h₁⟩
theorem qe{f:FuncId}{fn:Func}{args:Array Operand}{ats:Array TypeId}(ho:ops[i]?=some o)(hw:Region.wanted o (yielded ops a.tmps)=true)(hk:b.kind≠.early)(hop:o.op=.call { callee:=.value (.func f),args,argTypes:=ats })
 (hf : P.funcs[f]? = some fn) (hname : (fn.name == "runtime.NumGoroutine") = false) (hb : fn.body.isNone = false)
 (h:Go.Pm.Way P main K A X Stop O (G (Frame.enter P f (args.map a.eval) .normal) (b.at a (.inRegion ops (i::rest)::k)::cs)) w):Go.Pm.Way P main K A X Stop O (G (b.at a (.inRegion ops (i::rest)::k)) cs) w:=
 qmo ho hw hk (fun _=>⟨run_call_body hop hf hname hb,events_call_body hop hf hname hb _⟩) h
theorem qk6(O:Nat->Prop)(w:World)(ob:Obj):grow O w (w.alloc ob)=fun b=>O b\/b=w.heap.size:=by
 funext b;apply propext;have hs:(w.alloc ob).heap.size=w.heap.size+1:=by simp
 simp only[grow,hs];constructor
 ·rintro(h|h)
  ·exact .inl h
  ·exact .inr (by omega)
 ·rintro(h|h)
  ·exact .inl h
  ·exact .inr (by omega)
theorem qbz{f:World->Obj}(ho:ops[i]?=some o)(hw:Region.wanted o (yielded ops a.tmps)=true)(hk:b.kind≠.early)
 (hr:∀wB,Rely O K A w wB->(execOp a.eval o).run P wB=.ok (.value (pT wB.heap.size 0)) (wB.alloc (f wB))/\(execOp a.eval o).events P wB #[]=#[])
 (h:∀wB,Rely O K A w wB->Go.Pm.Way P main K A X Stop (fun b=>O b\/b=wB.heap.size) (G (b.at (a.put o.dst (pT wB.heap.size 0)) (.inRegion ops rest::k)) cs) (wB.alloc (f wB))):Go.Pm.Way P main K A X Stop O (G (b.at a (.inRegion ops (i::rest)::k)) cs) w:=
 qdj rfl fun wB h₁=>⟨_,_,_,stepG_value ho hw hk (hr wB h₁).1,qc4 ⟨fun c hc _=>Go.RowKit.Below.heap_alloc _ _ _ hc,by simp,rfl,rfl,fun e he=>by rw[(hr wB h₁).2] at he;simp at he⟩,by rw[qk6];exact h wB h₁⟩
theorem qh6{ad:Addr}{v:Value}(ho:ops[i]?=some o)(hw:Region.wanted o (yielded ops a.tmps)=true)(hk:b.kind≠.early)(hO:O ad.block)
 (hr:∀wB,Rely O K A w wB->(execOp a.eval o).run P wB=.ok .skip (wB.setCell ad v)/\∀e∈(execOp a.eval o).events P wB #[],e.loc=.cell ad)
 (h:∀wB,Rely O K A w wB->Go.Pm.Way P main K A X Stop O (G (b.at (a.put o.dst undef) (.inRegion ops rest::k)) cs) (wB.setCell ad v)):Go.Pm.Way P main K A X Stop O (G (b.at a (.inRegion ops (i::rest)::k)) cs) w:=by
 refine qdj rfl fun wB h₁=>?_;have hA:=aside_setCell wB ad v;have hg:grow O wB (wB.setCell ad v)=O:=Go.Pm.grow_same O hA.size;refine⟨_,_,_,stepG_none ho hw hk (hr wB h₁).1,qc4 ⟨fun c _ hc=>hA.block c fun e=>hc (e▸hO),by rw[hA.size];exact yb _,hA.tape,Go.Pm.eo_of hA.os hA.output,fun e he=>.inl ?_⟩,by rw[hg];exact h wB h₁⟩;have:=(hr wB h₁).2 e he;obtain⟨loc,wr,sy⟩:=e;simp only at this;subst this;exact .inl (by rw[hg];exact hO)
def orders(ops:Array Oper):Nat->Array Bool->List (List Nat)
 |0,_=>[[]]
 |fuel+1,listed=>if (Region.ready .any ops listed).isEmpty then [[]] else (Region.ready .any ops listed).flatMap fun i=>(orders ops fuel (listed.setIfInBounds i true)).map (i::·)
theorem qh7(ops:Array Oper):∀(fuel t:Nat) (listed:Array Bool),Region.linearise.go .any ops fuel t listed []∈orders ops fuel listed:=by
 intro fuel;induction fuel with
 |zero=>intro t listed;simp[orders,Region.linearise.go]
 | succ fuel ih =>
   intro t listed;simp only[Region.linearise.go];change (match (Region.ready .any ops listed)[t % (Region.ready .any ops listed).length]? with
    |some i=>Region.linearise.go .any ops fuel (t / (Region.ready .any ops listed).length) (listed.setIfInBounds i true) [i]
    |none=>[].reverse)∈_
   cases hi:(Region.ready .any ops listed)[t % (Region.ready .any ops listed).length]? with
   | none =>
     have hnil:Region.ready .any ops listed=[]:=by
      cases hr:Region.ready .any ops listed with
      |nil=>rfl
      | cons x xs =>
        rw[hr] at hi;have hlt:t % (x::xs).length<(x::xs).length:=Nat.mod_lt _ (by simp);simp at hi;simp at hlt;omega
     simp[orders,hnil]
   | some i =>
     have hm:=yy hi;simp only[];rw[linearise_go_acc,List.reverse_singleton,List.singleton_append];have hne:(Region.ready .any ops listed).isEmpty=false:=by
      cases hr:Region.ready .any ops listed with
      |nil=>rw[hr] at hm;cases hm
      |cons x xs=>rfl
     simp only[orders,hne,yH,if_false];exact yaL.2 ⟨i,hm,yW.2 ⟨_,ih _ _,rfl⟩⟩
theorem qcj{id:Nat}(hm:P.follows .mixedOrders=true){L:List (List Nat)}(hL:orders ops ops.size (Array.replicate ops.size false)=L)(hA:∀w d,A w->A (w.at d))(h:∀l∈L,Go.Pm.Way P main K A X Stop O (G (b.at a (.inRegion ops l::k)) cs) w) :
 Go.Pm.Way P main K A X Stop O (G (b.at a (.code (.region id ops true)::k)) cs) w:=by
 refine qdj rfl fun wB h₁=>⟨_,{ wB with drawn:=wB.drawn+1 },#[],stepG_region_draw,⟨fun _ _ _=>rfl,yb _,rfl,rfl,by simp⟩,?_⟩;rw[Go.Pm.grow_same O (w:=wB) (w':={ wB with drawn:=wB.drawn+1 }) rfl];have:=qh7 ops ops.size (wB.tape wB.drawn (.order b.fn id)) (Array.replicate ops.size false);rw[hL] at this;simp only[Region.schedule,hm,Bool.true_or,if_true];exact(h _ this).rely (h₁.trans (relyAt hA wB (wB.drawn+1)))
end
section
variable {P:Program}{ty:TypeId}{Post:Value->World->Prop}{Wg:Nat}{Qs:List Fact}{tag:Tag}{O K:Nat->Prop}{g:Goroutine}{w:World}
theorem Main.of_way{Stop:(Nat->Prop)->Goroutine->World->Prop}(h:Go.Pm.Way P true K (Al ty Wg tag) (XS Wg tag) Stop O g w)(k:∀O g w,(∀wB,Rely O K (Al ty Wg tag) w wB->Stop O g wB)->Main P ty Post Wg Qs tag O K g w):Main P ty Post Wg Qs tag O K g w:=by
 induction h with
 |stop h=>exact k _ _ _ h
 |step hrun hgo _ ih=>exact .idle hrun hgo ih
end
end
end Go.Cr
