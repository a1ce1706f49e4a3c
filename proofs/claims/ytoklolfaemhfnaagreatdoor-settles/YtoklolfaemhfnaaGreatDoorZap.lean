import Derived.OrdersHeld
import Derived.Tactics
import Derived.Test.YtoklolfaemhfnaaGreatDoorZam
set_option maxRecDepth 100000
set_option maxHeartbeats 0
set_option linter.defProp false
namespace Go.Proofs.Y
section
open Go.RowKit
variable {P:ϛ}{md:Region.Mode}{ops:Array Oper}{Q:Exit->Act->Ξ}{S:Ξ}{listed:Array Bool}{a a':Act}{w:Δ}{o oz oi:Oper}{z n fuel:Nat}{v:Θ}
def wk(i:Nat)(h:wpAnyH P md ops Q S fuel (listed.setIfInBounds i true) a' w)(hi:ops[i]?=some oi:=by exact rfl)(hs:Region.noSelect ops=true:=by kernel_rfl)(hf:Region.free md ops listed i=true:=by kernel_rfl)(hr:(Region.ready md ops listed).contains i=true:=by kernel_rfl)(hQ:∀c a w,Q (.panic c) (a.put oi.dst v) w->Q (.panic c) a w:=by exact λ_ _ _ h=>h)(hy:YieldsIf P ops S oi v a:=by first|exact Or.inr ⟨by rfl,rfl⟩|exact Or.inl ⟨by rfl,by (intro w' hSw;(try dsimp only at hSw);go_simp;(try with_reducible rfl))⟩)(hS:S w:=by assumption)(he:a.put oi.dst v=a':=by (try simp only[pU]);exact rfl):wpAnyH P md ops Q S (fuel+1) listed a w:=
 wpAnyH_take hi hs hf hr hQ hy hS (he▸h)
def te(i:Nat)(h:∀K':Act->Ξ,Shut (∀a w,(i≠z->S w)->((i≠z->S w)->gl P md ops Q S z n (listed.setIfInBounds i true) a w)->K' a w)->if Region.wanted o (yielded ops a.tmps)=true then Oper.wp P o a w K' Q else K' (a.put o.dst undef) w)(hr:Region.ready md ops listed=[i]:=by kernel_rfl)(ho:ops[i]?=some o:=by exact rfl):gl P md ops Q S z (n+1) listed a w:=gl.one i hr ho h
def we(i:Nat)(h:∀K':Act->Ξ,Shut (∀a w,S w->(S w->wpAnyH P md ops Q S fuel (listed.setIfInBounds i true) a w)->K' a w)->if Region.wanted o (yielded ops a.tmps)=true then Oper.wp P o a w K' Q else K' (a.put o.dst undef) w)(hr:Region.ready md ops listed=[i]:=by kernel_rfl)(ho:ops[i]?=some o:=by exact rfl):wpAnyH P md ops Q S (fuel+1) listed a w:=wpAnyH_ready (rs:=[i]) hr (by simp) (AllReadyH.cons ho h AllReadyH.nil)
def pU:(∀(a:Act)(d:Nat)(v:Θ),a.put (some d) v={a with tmps:=a.tmps.setIfInBounds d v})/\(type_of% @List.setIfInBounds_toArray.{0})/\(type_of% @List.set_cons_zero.{0})/\(type_of% @List.set_cons_succ.{0})/\(type_of% @List.getElem_toArray.{0})/\(type_of% @List.getElem_cons_zero.{0})/\(type_of% @List.getElem_cons_succ.{0}):=
 ⟨λ_ _ _=>rfl,@List.setIfInBounds_toArray,@List.set_cons_zero,@List.set_cons_succ,@List.getElem_toArray,@List.getElem_cons_zero,@List.getElem_cons_succ⟩
end
section
variable {md:Region.Mode}{ops:Array Oper}{listed:Array Bool}{i z:Nat}{P:ϛ}{Q:Exit->Act->Ξ}{S:Ξ}{o:Oper}{v:Θ}
def jP(md:Region.Mode)(ops:Array Oper)(listed:Array Bool)(i:Nat):Nat->Nat->Bool
 |0,_=>false
 |n+1,z=>match ops[z]? with
   |none=>false
   |some oz=>oz.after.any λe=>Region.binds md e&&(e.on==i||(!listed.getD e.on true&&jP md ops listed i n e.on))
def rK(hi:listed.getD i true=false):∀{n z:Nat},jP md ops listed i n z=true->z∉Region.ready md ops listed
 |n+1,z,h,hz=>by obtain⟨-,oz,hoz,hall⟩:=mem_ready.1 hz;unfold jP at h;rw[hoz]at h;let⟨e,he,hb⟩:=Array.any_eq_true'.1 h;simp only[Bool.and_eq_true,Bool.or_eq_true,beq_iff_eq,Bool.not_eq_true']at hb;have h1:=hall e he hb.1;have hun:listed.getD e.on true=false:=hb.2.elim (λe0=>e0▸hi) λe0=>e0.1;rcases Nat.lt_or_ge e.on listed.size with h'|h';simp[h']at hun h1;rw[hun]at h1;cases h1;simp[Array.getElem?_eq_none h']at h1
def pD{j:Nat}(hi:listed.getD i true=false)(hj:j∈Region.ready md ops listed)(hne:j≠i):∀{n z:Nat},jP md ops listed i n z=true->jP md ops (listed.setIfInBounds j true) i n z=true
 |n+1,z,h=>by unfold jP at h|-;rcases hz:ops[z]? with _|oz;rw[hz]at h;cases h;rw[hz]at h;let⟨e,he,hb⟩:=Array.any_eq_true'.1 h;refine Array.any_eq_true'.2 ⟨e,he,?_⟩;simp only[Bool.and_eq_true,Bool.or_eq_true,beq_iff_eq,Bool.not_eq_true']at hb|-;refine⟨hb.1,hb.2.imp id λh2=>⟨?_,pD hi hj hne h2.2⟩⟩;have hjk:j≠e.on:=λe0=>rK hi h2.2 (e0▸hj);rw[getD_set_ne true hjk];exact h2.1
def gl.a{m:Nat}(hi:ops[i]?=some o)(hsel:Region.noSelect ops=true)(hQ:∀c a w,Q (.panic c) (a.put o.dst v) w->Q (.panic c) a w):∀(n:Nat)(listed:Array Bool)(a:Act)(w:Δ),
   (∀j oj,ops[j]?=some oj->j≠i->listed.getD j true=false->(∀e∈oj.after,Region.binds md e=true->e.on≠i)->o.apart ops oj=true)->
   i∈Region.ready md ops listed->jP md ops listed i m z=true->YieldsIf P ops S o v a->S w->
   gl P md ops Q S z n (listed.setIfInBounds i true) (a.put o.dst v) w->gl P md ops Q S z (n+1) listed a w:=by
 intro n;induction n with
 |zero=>
  intro listed a w _ hr _ hy hS H;refine⟨λh=>(by rw[h]at hr;cases hr),λj hj=>?_⟩;by_cases hne:j≠i;have:=ready_mono hj hne;rw[H.1]at this;cases this;have hji:j=i:=Decidable.not_not.1 hne;subst hji;exact hy.wpOp hi hS ⟨λ_=>hS,H⟩
 |succ n ih=>
  intro listed a w hfree hr hzi hy hS H;refine⟨λh=>(by rw[h]at hr;cases hr),λj hj=>?_⟩;by_cases hne:j≠i
  .obtain⟨hjun,oj,hoj,hall⟩:=mem_ready.1 hj;have hiun:=(mem_ready.1 hr).1;have hnot:∀e∈oj.after,Region.binds md e=true->e.on≠i:=λe he hb heq=>by have h1:=hall e he hb;rw[heq]at h1;rcases Nat.lt_or_ge i listed.size with h'|h';simp[h']at hiun h1;rw[hiun]at h1;cases h1;simp[Array.getElem?_eq_none h']at h1
   have hjz:j≠z:=λe=>rK hiun (e▸hzi) hj;have h1:=H.2 j (ready_mono hj hne);have h2:=wpOp_putIf hoj (hfree j oj hoj hne hjun hnot) (λcs b=>Region.noSelect_spec hsel i o cs b hi) (λcs b=>Region.noSelect_spec hsel j oj cs b hoj) hQ hy h1;refine wpOp_mono (λa' w' h3=>⟨h3.2.1,ih (listed.setIfInBounds j true) a' w' (λk ok hk hki hun hno=>hfree k ok hk hki ?_ hno) (ready_mono hr (Ne.symm hne)) (pD hiun hj hne hzi) h3.1 (h3.2.1 hjz) ?_⟩) h2
   .by_cases hjk:j≠k
    rw[getD_set_ne true hjk]at hun;exact hun;rw[<-Decidable.not_not.1 hjk];exact hjun
   rw[Array.setIfInBounds_comm _ _ hne];exact h3.2.2
  have hji:j=i:=Decidable.not_not.1 hne;subst hji;exact hy.wpOp hi hS ⟨λ_=>hS,H⟩
def tw(i:Nat){n:Nat}{a a':Act}{w:Δ}(h:gl P md ops Q S z n (listed.setIfInBounds i true) a' w)(hi:ops[i]?=some o:=by exact rfl)(hzi:jP md ops listed i 64 z=true:=by kernel_rfl)(hs:Region.noSelect ops=true:=by kernel_rfl)(hf:Region.free md ops listed i=true:=by kernel_rfl)(hr:(Region.ready md ops listed).contains i=true:=by kernel_rfl)(hQ:∀c a w,Q (.panic c) (a.put o.dst v) w->Q (.panic c) a w:=by exact λ_ _ _ h=>h)(hy:YieldsIf P ops S o v a:=by first|exact Or.inr ⟨by rfl,rfl⟩|exact Or.inl ⟨by rfl,by (intro w' hSw;(try dsimp only at hSw);go_simp;(try with_reducible rfl))⟩)(hS:S w:=by assumption)(he:a.put o.dst v=a':=by (try simp only[pU]);exact rfl):gl P md ops Q S z (n+1) listed a w:=
 gl.a hi hs hQ n listed a w (Region.free_spec hi hf) (by simpa using hr) hzi hy hS (he▸h)
end
section
open Go.RowKit
variable {P:ϛ}{md:Region.Mode}{ops:Array Oper}{Q:Exit->Act->Ξ}{S:Ξ}{listed l':Array Bool}{a a':Act}{w:Δ}{o:Oper}{z n i:Nat}{v:Θ}
def nX:List Bool->Nat
 |true::l=>nX l+1
 |_=>0
def χ(h:gl P md ops Q S z n l' a' w)(_hn:nX listed.toList=i:=by simp only[List.setIfInBounds_toArray,List.set_cons_zero,List.set_cons_succ,Array.replicate,List.replicate,List.size_toArray,List.length_cons,List.length_nil,nX];exact rfl)(hl:listed.setIfInBounds i true=l':=by simp only[List.setIfInBounds_toArray,List.set_cons_zero,List.set_cons_succ,Array.replicate,List.replicate];exact rfl)(hi:ops[i]?=some o:=by exact rfl)(hzi:jP md ops listed i 64 z=true:=by kernel_rfl)(hs:Region.noSelect ops=true:=by kernel_rfl)(hf:Region.free md ops listed i=true:=by kernel_rfl)(hr:(Region.ready md ops listed).contains i=true:=by kernel_rfl)(hQ:∀c a w,Q (.panic c) (a.put o.dst v) w->Q (.panic c) a w:=by exact λ_ _ _ h=>h)(hy:YieldsIf P ops S o v a:=by first|exact Or.inr ⟨by rfl,rfl⟩|exact Or.inl ⟨by rfl,by (intro w' hSw;(try dsimp only at hSw);go_simp;(try with_reducible rfl))⟩)(hS:S w:=by assumption)(he:a.put o.dst v=a':=by (try simp only[pU]);exact rfl):gl P md ops Q S z (n+1) listed a w:=
 tw i (hl▸h) hi hzi hs hf hr hQ hy hS he
def ψ(h:wpAnyH P md ops Q S n l' a' w)(_hn:nX listed.toList=i:=by simp only[List.setIfInBounds_toArray,List.set_cons_zero,List.set_cons_succ,Array.replicate,List.replicate,List.size_toArray,List.length_cons,List.length_nil,nX];exact rfl)(hl:listed.setIfInBounds i true=l':=by simp only[List.setIfInBounds_toArray,List.set_cons_zero,List.set_cons_succ,Array.replicate,List.replicate];exact rfl)(hi:ops[i]?=some o:=by exact rfl)(hs:Region.noSelect ops=true:=by kernel_rfl)(hf:Region.free md ops listed i=true:=by kernel_rfl)(hr:(Region.ready md ops listed).contains i=true:=by kernel_rfl)(hQ:∀c a w,Q (.panic c) (a.put o.dst v) w->Q (.panic c) a w:=by exact λ_ _ _ h=>h)(hy:YieldsIf P ops S o v a:=by first|exact Or.inr ⟨by rfl,rfl⟩|exact Or.inl ⟨by rfl,by (intro w' hSw;(try dsimp only at hSw);go_simp;(try with_reducible rfl))⟩)(hS:S w:=by assumption)(he:a.put o.dst v=a':=by (try simp only[pU]);exact rfl):wpAnyH P md ops Q S (n+1) listed a w:=
 wk i (hl▸h) hi hs hf hr hQ hy hS he
