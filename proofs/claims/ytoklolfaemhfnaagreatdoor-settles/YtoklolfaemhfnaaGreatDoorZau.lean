import Derived.Conc.EventLaws2
import Derived.Test.YtoklolfaemhfnaaGreatDoorZat
set_option maxRecDepth 100000
set_option maxHeartbeats 0
set_option linter.defProp false
namespace Go.Cr
section
open Go Go.Conc Go.RowKit
open Go.Pm (Rely Guar Ev grow)
inductive Nx:List Item->List Item->Prop
 |seq (x y:Code) (k:List Item):Nx (.code (.seq x y)::k) (.code x::.code y::k)
 |done (ops:Array Oper) (k:List Item):Nx (.inRegion ops []::k) k
 |block (id:Nat) (c:Code) (k:List Item):Nx (.code (.block id c)::k) (.code c::.inBlock id::k)
 |inBlock (id:Nat) (k:List Item):Nx (.inBlock id::k) k
 |skip (k:List Item):Nx (.code .skip::k) k
section
variable {P:ϛ}{main:Bool}{K:ϑ}{A:Ξ}{X:Ϥ}{Stop:(ϑ)->Ϛ->Ξ}{O:ϑ}{w:Δ}{b:Frame}{a:Act}{k k':List Item}{cs:List Frame}{ops:Array Oper}{i id:Nat}{rest l:Ϙ}{o:Oper}{c:Operand}{x y z:Code}
theorem Nx.step{wL:Δ}(h:Nx k k'):stepG P main (G (b.at a k) cs) wL=.go (G (b.at a k') cs) wL:=by
 cases h with
 |seq=>exact stepG_seq
 |done=>exact stepG_region_end
 |block=>exact stepG_block
 |inBlock=>exact stepG_inBlock
 |skip=>exact stepG_skip
def wN(h:Pm.Way P main K A X Stop O (G (b.at a k') cs) w)(hs:Nx k k':=by constructor):Pm.Way P main K A X Stop O (G (b.at a k) cs) w:=au rfl (λ_=>hs.step) h
def wR(h:Pm.Way P main K A X Stop O (G (b.at a (.inRegion ops l::k)) cs) w)(he:List.range ops.size=l:=by (simp only[List.size_toArray,List.length_cons,List.length_nil,Nat.zero_add,List.range,List.range.loop];exact rfl)):Pm.Way P main K A X Stop O (G (b.at a (.code (.region id ops false)::k)) cs) w:=au rfl (λ_=>stepG_region) (he▸h)
def wT(h:Pm.Way P main K A X Stop O (G (b.at a (.code x::k)) cs) w)(he:a.eval c=.bool true:=by exact rfl):Pm.Way P main K A X Stop O (G (b.at a (.code (.cond c x y)::k)) cs) w:=au rfl (λ_=>stepG_cond (t:=true) he) h
def wF(h:Pm.Way P main K A X Stop O (G (b.at a (.code y::k)) cs) w)(he:a.eval c=.bool false:=by exact rfl):Pm.Way P main K A X Stop O (G (b.at a (.code (.cond c x y)::k)) cs) w:=au rfl (λ_=>stepG_cond (t:=false) he) h
def wV(v:Θ)(h:Pm.Way P main K A X Stop O (G (b.at (a.put o.dst v) (.inRegion ops rest::k)) cs) w)(ho:ops[i]?=some o:=by exact rfl)(hw:Region.wanted o (yielded ops a.tmps)=true:=by exact rfl)(hk:b.kind≠.early:=by decide)(hr:∀wL,Rely O K A w wL->(execOp a.eval o).run P wL=.ok (.value v) wL/\∀e∈(execOp a.eval o).events P wL #[],Ev O K e:=by exact λwL bm=>⟨by go_simp,by simp[go_sem, *]⟩):Pm.Way P main K A X Stop O (G (b.at a (.inRegion ops (i::rest)::k)) cs) w:=ag ho hw hk hr h
def wA(fn:Func){f:FuncId}{args:Array Operand}{ats:Array TypeId}(h:Pm.Way P main K A X Stop O (G (Frame.enter P f (args.map a.eval) .normal) (b.at a (.inRegion ops (i::rest)::k)::cs)) w)(ho:ops[i]? =some o:=by exact rfl)(hw:Region.wanted o (yielded ops a.tmps)=true:=by exact rfl)(hk:b.kind≠.early:=by decide)(hop:o.op=.call {callee:=.value (.func f),args,argTypes:=ats}:=by exact rfl)(hf:P.funcs[f]? =some fn:=by exact rfl)(hname:(fn.name== "runtime.NumGoroutine")=false:=by kernel_rfl)(hb:fn.body.isNone=false:=by exact rfl):Pm.Way P main K A X Stop O (G (b.at a (.inRegion ops (i::rest)::k)) cs) w:=dS ho hw hk hop hf hname hb h
end
