import Derived.OrdersHeld
import Derived.Tactics
import Derived.Test.YtoklolfaemhfnaaGreatDoorZaw
set_option maxRecDepth 100000
set_option maxHeartbeats 8000000
namespace Go.Proofs.YtoklolfaemhfnaaGreatDoor
section
open Go.RowKit
theorem tk{P:Program}{md:Region.Mode}{ops:Array Oper}{Q:Exit->Act->World->Prop}{S:World->Prop}{z:Nat}(i:Nat){o oz:Oper}{v:Value}{n:Nat}{listed:Array Bool}{a a':Act}{w:World}
 (h:Ends P md ops Q S z n (listed.setIfInBounds i true) a' w) (hi:ops[i]?=some o:=by exact rfl) (hz:ops[z]?=some oz:=by exact rfl)
 (hzi:oz.after.any (fun e=>Region.binds md e && e.on == i)=true:=by kernel_rfl) (hs:Region.noSelect ops=true:=by kernel_rfl) (hf:Region.free md ops listed i=true:=by kernel_rfl) (hr:(Region.ready md ops listed).contains i=true:=by kernel_rfl)
 (hQ:∀c a w,Q (.panic c) (a.put o.dst v) w->Q (.panic c) a w:=by exact fun _ _ _ h=>h) (hy:YieldsIf P ops S o v a:=by exact Or.inl ⟨by rfl,by (intro w' hSw;(try dsimp only at hSw);go_simp;(try with_reducible rfl))⟩) (hS:S w:=by assumption)
 (he:a.put o.dst v=a':=by (try simp only[pU]);exact rfl):Ends P md ops Q S z (n+1) listed a w:=
 Ends.take i hi hz hzi hs hf hr hQ hy hS (he▸h)
theorem wk{P:Program}{md:Region.Mode}{ops:Array Oper}{Q:Exit->Act->World->Prop}{S:World->Prop}(i:Nat){oi:Oper}{v:Value}{fuel:Nat}{listed:Array Bool}{a a':Act}{w:World}
 (h:wpAnyH P md ops Q S fuel (listed.setIfInBounds i true) a' w) (hi:ops[i]?=some oi:=by exact rfl)
 (hs:Region.noSelect ops=true:=by kernel_rfl) (hf:Region.free md ops listed i=true:=by kernel_rfl) (hr:(Region.ready md ops listed).contains i=true:=by kernel_rfl)
 (hQ:∀c a w,Q (.panic c) (a.put oi.dst v) w->Q (.panic c) a w:=by exact fun _ _ _ h=>h) (hy:YieldsIf P ops S oi v a:=by exact Or.inl ⟨by rfl,by (intro w' hSw;(try dsimp only at hSw);go_simp;(try with_reducible rfl))⟩) (hS:S w:=by assumption)
 (he:a.put oi.dst v=a':=by (try simp only[pU]);exact rfl):wpAnyH P md ops Q S (fuel+1) listed a w:=
 wpAnyH_take hi hs hf hr hQ hy hS (he▸h)
theorem tu{P:Program}{md:Region.Mode}{ops:Array Oper}{Q:Exit->Act->World->Prop}{S:World->Prop}{z:Nat}(i:Nat){o oz:Oper}{n:Nat}{listed:Array Bool}{a a':Act}{w:World}
 (h:Ends P md ops Q S z n (listed.setIfInBounds i true) a' w) (hi:ops[i]?=some o:=by exact rfl) (hz:ops[z]?=some oz:=by exact rfl)
 (hzi:oz.after.any (fun e=>Region.binds md e && e.on == i)=true:=by kernel_rfl) (hs:Region.noSelect ops=true:=by kernel_rfl) (hf:Region.free md ops listed i=true:=by kernel_rfl) (hr:(Region.ready md ops listed).contains i=true:=by kernel_rfl)
 (hQ:∀c a w,Q (.panic c) (a.put o.dst undef) w->Q (.panic c) a w:=by exact fun _ _ _ h=>h) (hy:YieldsIf P ops S o undef a:=by exact Or.inr ⟨by rfl,rfl⟩) (hS:S w:=by assumption)
 (he:a.put o.dst undef=a':=by (try simp only[pU]);exact rfl):Ends P md ops Q S z (n+1) listed a w:=
 Ends.take i hi hz hzi hs hf hr hQ hy hS (he▸h)
theorem wu{P:Program}{md:Region.Mode}{ops:Array Oper}{Q:Exit->Act->World->Prop}{S:World->Prop}(i:Nat){oi:Oper}{fuel:Nat}{listed:Array Bool}{a a':Act}{w:World}
 (h:wpAnyH P md ops Q S fuel (listed.setIfInBounds i true) a' w) (hi:ops[i]?=some oi:=by exact rfl)
 (hs:Region.noSelect ops=true:=by kernel_rfl) (hf:Region.free md ops listed i=true:=by kernel_rfl) (hr:(Region.ready md ops listed).contains i=true:=by kernel_rfl)
 (hQ:∀c a w,Q (.panic c) (a.put oi.dst undef) w->Q (.panic c) a w:=by exact fun _ _ _ h=>h) (hy:YieldsIf P ops S oi undef a:=by exact Or.inr ⟨by rfl,rfl⟩) (hS:S w:=by assumption)
 (he:a.put oi.dst undef=a':=by (try simp only[pU]);exact rfl):wpAnyH P md ops Q S (fuel+1) listed a w:=
 wpAnyH_take hi hs hf hr hQ hy hS (he▸h)
theorem te{P:Program}{md:Region.Mode}{ops:Array Oper}{Q:Exit->Act->World->Prop}{S:World->Prop}{z:Nat}(i:Nat){o:Oper}{n:Nat}{listed:Array Bool}{a:Act}{w:World}
 (h:∀K':Act->World->Prop,Shut (∀a w,(i≠z->S w)->((i≠z->S w)->Ends P md ops Q S z n (listed.setIfInBounds i true) a w)->K' a w)->if Region.wanted o (yielded ops a.tmps)=true then Oper.wp P o a w K' Q else K' (a.put o.dst undef) w)
 (hr:Region.ready md ops listed=[i]:=by kernel_rfl) (ho:ops[i]?=some o:=by exact rfl):Ends P md ops Q S z (n+1) listed a w:=Ends.one i hr ho h
theorem we{P:Program}{md:Region.Mode}{ops:Array Oper}{Q:Exit->Act->World->Prop}{S:World->Prop}(i:Nat){o:Oper}{fuel:Nat}{listed:Array Bool}{a:Act}{w:World}
 (h:∀K':Act->World->Prop,Shut (∀a w,S w->(S w->wpAnyH P md ops Q S fuel (listed.setIfInBounds i true) a w)->K' a w)->if Region.wanted o (yielded ops a.tmps)=true then Oper.wp P o a w K' Q else K' (a.put o.dst undef) w)
 (hr:Region.ready md ops listed=[i]:=by kernel_rfl) (ho:ops[i]?=some o:=by exact rfl):wpAnyH P md ops Q S (fuel+1) listed a w:=wpAnyH_ready (rs:=[i]) hr (by simp) (AllReadyH.cons ho h AllReadyH.nil)
theorem pU:(∀(a:Act) (d:Nat) (v:Value),a.put (some d) v={ a with tmps:=a.tmps.setIfInBounds d v })/\(type_of% @List.setIfInBounds_toArray.{0})/\(type_of% @List.set_cons_zero.{0})/\(type_of% @List.set_cons_succ.{0})/\(type_of% @List.getElem_toArray.{0})/\(type_of% @List.getElem_cons_zero.{0})/\(type_of% @List.getElem_cons_succ.{0}):=
 ⟨fun _ _ _=>rfl,@List.setIfInBounds_toArray,@List.set_cons_zero,@List.set_cons_succ,@List.getElem_toArray,@List.getElem_cons_zero,@List.getElem_cons_succ⟩
theorem infoInt:(Tryz.prog.info? 3).map (fun i=>(i.zero,i.size,i.bytes))=some (some (J 0),1,8):=by kernel_rfl
theorem add0(b j:Nat):(⟨b,0,none⟩:Addr).add j=(aT b j):=by
 have:(⟨b,0,none⟩:Addr).add j=⟨b,0+j,none⟩:=by simp[Addr.add];omega
 rw[this,yS]
end
end Go.Proofs.YtoklolfaemhfnaaGreatDoor
