import Derived.Test.YtoklolfaemhfnaaGreatDoorZam
set_option maxRecDepth 100000
set_option maxHeartbeats 8000000
namespace Go.Proofs.YtoklolfaemhfnaaGreatDoor
section
open Go.RowKit

end
section
def Ends(P:Program)(md:Region.Mode)(ops:Array Oper)(Q:Exit->Act->World->Prop)(S:World->Prop)(z:Nat):Nat->Array Bool->Act->World->Prop
 |0,listed,a,w=>Region.ready md ops listed=[]/\Q .normal a w
 | n + 1, listed, a, w => (Region.ready md ops listed = [] -> Q .normal a w) /\
     ∀i∈Region.ready md ops listed,wpOp P ops Q i (fun a' w'=>(i≠z->S w')/\Ends P md ops Q S z n (listed.setIfInBounds i true) a' w') a w
theorem Ends.any{P:Program}{md:Region.Mode}{ops:Array Oper}{Q:Exit->Act->World->Prop}{S:World->Prop}{z:Nat}:∀(n:Nat) (listed:Array Bool) (a:Act) (w:World),Ends P md ops Q S z n listed a w->wpAny P md ops Q n listed a w
 |0,_,_,_,h=>h
 |n+1,_,_,_,h=>⟨h.1,fun i hi=>wpOp_mono (fun a' w' h'=>Ends.any n _ a' w' h'.2) (h.2 i hi)⟩
theorem Ends.first{P:Program}{md:Region.Mode}{ops:Array Oper}{Q:Exit->Act->World->Prop}{S:World->Prop}{z i:Nat}{o oz:Oper}{v:Value}(hi:ops[i]?=some o)(hz:ops[z]?=some oz)(hzi:∃e∈oz.after,Region.binds md e=true/\e.on=i)
 (hsel:Region.noSelect ops=true) (hQ:∀c a w,Q (.panic c) (a.put o.dst v) w->Q (.panic c) a w) :
 ∀ (n : Nat) (listed : Array Bool) (a : Act) (w : World),
   (∀j oj,ops[j]?=some oj->j≠i->listed.getD j true=false->(∀e∈oj.after,Region.binds md e=true->e.on≠i)->o.apart ops oj=true)->
   i∈Region.ready md ops listed->YieldsIf P ops S o v a->S w->
   Ends P md ops Q S z n (listed.setIfInBounds i true) (a.put o.dst v) w->Ends P md ops Q S z (n+1) listed a w:=by
 intro n;induction n with
 | zero =>
   intro listed a w _ hr hy hS H;refine⟨fun h=>(by rw[h] at hr;cases hr),fun j hj=>?_⟩;by_cases hne:j≠i
   ·have:=ready_mono hj hne;rw[H.1] at this;cases this
   ·have hji:j=i:=Decidable.not_not.1 hne;subst hji;exact hy.wpOp hi hS ⟨fun _=>hS,H⟩
 | succ n ih =>
   intro listed a w hfree hr hy hS H;refine⟨fun h=>(by rw[h] at hr;cases hr),fun j hj=>?_⟩;by_cases hne:j≠i
   ·obtain⟨hjun,oj,hoj,hall⟩:=mem_ready.1 hj;have hiun:=(mem_ready.1 hr).1;have hnot:∀e∈oj.after,Region.binds md e=true->e.on≠i:=fun e he hb heq=>by
     have h1:=hall e he hb;rw[heq] at h1;rcases ya3 i listed.size with h'|h'
     ·simp[h'] at hiun h1;rw[hiun] at h1;cases h1
     ·simp[Array.getElem?_eq_none h'] at h1
    have hjz:j≠z:=fun e=>by
     subst e;obtain⟨e,he,hb,hon⟩:=hzi;rw[hz] at hoj;injection hoj with hoj;subst hoj;exact hnot e he hb hon
    have h1:=H.2 j (ready_mono hj hne);have h2:=wpOp_putIf hoj (hfree j oj hoj hne hjun hnot) (fun cs b=>Region.noSelect_spec hsel i o cs b hi) (fun cs b=>Region.noSelect_spec hsel j oj cs b hoj) hQ hy h1;refine wpOp_mono (fun a' w' h3=>⟨h3.2.1,ih (listed.setIfInBounds j true) a' w' (fun k ok hk hki hun hno=>hfree k ok hk hki ?_ hno) (ready_mono hr (Ne.symm hne)) h3.1 (h3.2.1 hjz) ?_⟩) h2
    ·by_cases hjk:j≠k
     ·rw[getD_set_ne true hjk] at hun;exact hun
     ·rw[<-Decidable.not_not.1 hjk];exact hjun
    ·rw[Array.setIfInBounds_comm _ _ hne];exact h3.2.2
   ·have hji:j=i:=Decidable.not_not.1 hne;subst hji;exact hy.wpOp hi hS ⟨fun _=>hS,H⟩
theorem Ends.take{P:Program}{md:Region.Mode}{ops:Array Oper}{Q:Exit->Act->World->Prop}{S:World->Prop}{z:Nat}(i:Nat){o oz:Oper}{v:Value}{n:Nat}{listed:Array Bool}{a:Act}{w:World}(hi:ops[i]?=some o)(hz:ops[z]?=some oz)
 (hzi:oz.after.any (fun e=>Region.binds md e && e.on == i)=true) (hs:Region.noSelect ops=true) (hf:Region.free md ops listed i=true) (hr:(Region.ready md ops listed).contains i=true)
 (hQ:∀c a w,Q (.panic c) (a.put o.dst v) w->Q (.panic c) a w) (hy:YieldsIf P ops S o v a) (hS:S w)
 (h:Ends P md ops Q S z n (listed.setIfInBounds i true) (a.put o.dst v) w):Ends P md ops Q S z (n+1) listed a w:=by
 obtain⟨e,he,hb⟩:=Array.any_eq_true'.1 hzi;simp only[yB,beq_iff_eq] at hb;exact Ends.first hi hz ⟨e,he,hb⟩ hs hQ n listed a w (Region.free_spec hi hf) (by simpa using hr) hy hS h
theorem Ends.one{P:Program}{md:Region.Mode}{ops:Array Oper}{Q:Exit->Act->World->Prop}{S:World->Prop}{z:Nat}(i:Nat){o:Oper}{n:Nat}{listed:Array Bool}{a:Act}{w:World}(hr:Region.ready md ops listed=[i])(ho:ops[i]?=some o)
 (h:∀K':Act->World->Prop,Shut (∀a w,(i≠z->S w)->((i≠z->S w)->Ends P md ops Q S z n (listed.setIfInBounds i true) a w)->K' a w)->if Region.wanted o (yielded ops a.tmps)=true then Oper.wp P o a w K' Q else K' (a.put o.dst undef) w) :
 Ends P md ops Q S z (n+1) listed a w:=
 ⟨fun h0=>(by rw[hr] at h0;cases h0),fun j hj=>by
  rw[hr] at hj;have:j=i:=by simpa using hj
  subst this;exact wpOp_step ho (fun K' hK=>h K' (fun a w hS hW=>hK a w ⟨hS,hW hS⟩))⟩
theorem Ends.done{P:Program}{md:Region.Mode}{ops:Array Oper}{Q:Exit->Act->World->Prop}{S:World->Prop}{z:Nat}{listed:Array Bool}{a:Act}{w:World}(hr:Region.ready md ops listed=[])(h:Q .normal a w):∀n,Ends P md ops Q S z n listed a w
 |0=>⟨hr,h⟩
 |_+1=>⟨fun _=>h,by rw[hr];simp⟩
theorem Ends.begin{P:Program}{ops:Array Oper}{Q:Exit->Act->World->Prop}(S:World->Prop)(z:Nat){id:Nat}{a:Act}{w:World}(hm:P.follows .mixedOrders=true)(hS:S w.drew)
 (h:S w.drew->Ends P .any ops Q S z ops.size (Array.replicate ops.size false) a w.drew):(Code.region id ops true).wp P Q a w:=
 wp_region_any hm (Ends.any _ _ _ _ (h hS))
end
end Go.Proofs.YtoklolfaemhfnaaGreatDoor
