import Derived.Test.YtoklolfaemhfnaaGreatDoorZbt
import Derived.Test.YtoklolfaemhfnaaGreatDoorZcb
set_option maxRecDepth 100000
set_option maxHeartbeats 8000000
namespace Go.Cr
section
open Go Go.Conc Go.RowKit Go.Conc.Lib Go.ConcR.Gen Go.ConcN.Gen Go.Proofs
open Go.ConcN (WgLive)
open Go.ConcR (KK wgBlock WgAt stA smA rd wr mk DC0 WgAt.setSt WgAt.setSm)
open Go.Pm (Rely Guar Ev grow)
section
variable {Wg:Nat}{L:WgLink}
theorem tmps117(x y:Value):(#[x,y]++Array.replicate 115 undef:Array Value)=#[x,y,undef,undef,undef,undef,undef,undef,undef,undef,undef,undef,undef,undef,undef,undef,undef,undef,undef,undef,undef,undef,undef,undef,undef,undef,undef,undef,undef,undef,undef,undef,undef,undef,undef,undef,undef,undef,undef,undef,undef,undef,undef,undef,undef,undef,undef,undef,undef,undef,undef,undef,undef,undef,undef,undef,undef,undef,undef,undef,undef,undef,undef,undef,undef,undef,undef,undef,undef,undef,undef,undef,undef,undef,undef,undef,undef,undef,undef,undef,undef,undef,undef,undef,undef,undef,undef,undef,undef,undef,undef,undef,undef,undef,undef,undef,undef,undef,undef,undef,undef,undef,undef,undef,undef,undef,undef,undef,undef,undef,undef,undef,undef,undef,undef,undef,undef]:=by walk_nrm
set_option maxRecDepth 100000 in
theorem doneWalk{P:Program}(H:WgLib P L){c:Frame}{cs:List Frame}{qt:Nat}(hcm:c.mode=.returning)(hT:QuitsD P qt 0 (G c cs))(w:World)(hF:WgLive L.tWg Wg w) :
 Goes P false (RO L.tWg Wg) DC0 (ER P L.tWg Wg) 50 (G ((baseD L.done).at ⟨#[pT Wg 0,undef,undef,undef],[]⟩ [.code (body_done L)]) (c::cs)) w:=by
 lib_facts
 have hA:=@addNeg L Wg P H;simp only[tmps117,body_add,addFn,yv] at hA;simp only[body_done,doneFn,yv];u_reg qa hF
 u_op qa hF
 u_in qa hF
 refine goes_call rfl rfl (by k_ne) rfl H.f_add (nm_add L) rfl ⟨by u_nil,?_⟩;walk_nrmf addFn
 refine Goes.mono (n:=40) (hA (qt:=qt+3) ?_ _ hF) (by omega);q_c sE
 q_c stepG_end
 exact QuitsD.leaveD rfl rfl H.f_done rfl hcm hT
end
set_option maxRecDepth 100000 in
theorem qpm{R B:Nat->Prop}{Wg pc bx ic ab i n cp:Nat}{pv sv:Value}{w:World}(hi:i<n)(hF:CK R pc bx ic ab i n cp pv sv w){QQ:Fact}(hQ:∀O w wB,Rely O R (WgLive 148 Wg) w wB->QQ O w->QQ O wB)(hl:WgLive 148 Wg w)(hB:¬B Wg)(hlt:Wg<w.heap.size)
 (hW:CallWay Tryz.prog false R (WgLive 148 Wg) XNone 101 #[pv,sv] B w fun _=>QQ):∃T,Wk Tryz.prog 148 Wg QQ R T 7 0 B (born Tryz.prog (call99 Wg pc bx ic)) w:=by
 refine Wk.of_way (qni (qnk (fun _ _ h=>h) hi hF hQ hW) hl hB hlt) fun O g w hS=>?_;obtain⟨⟨_,T,rfl⟩,hl⟩:=hS w (.refl _ _ _ _);refine Wk.of_done (n:=51) (fun wB h₁=>(hS wB h₁).1.1) ?_;clear hS;u_in qa hl
 rw[stepG_unwind_enter rfl Tryz.wgLib.f_done (nm_done Tryz.link) rfl];simp only[goes_go];refine⟨by u_nil,?_⟩;have:=doneWalk Tryz.wgLib (c:={ b99.at ⟨T,[]⟩ [] with mode:=.returning }) (cs:=[bot]) rfl (quitsTail T) _ hl;simp only[body_done,doneFn,yv] at this;walk_nrmf doneFn
 exact this
theorem qpn{K:Nat->Prop}{ab n cp:Nat}{pv:Nat->Nat}{sv:Nat->Value}{Bs:Nat->Nat->Prop}{QQ:Nat->Fact}{w:World}{Wg bx k:Nat}(hk:k<n)(hWg:w.heap.size<=Wg)(hB:∀b,Bs k b->b<w.heap.size)
 (hQ:∀(O':Nat->Prop) (w wB:World),(∀b,O' b\/K b->wB.heap[b]?=w.heap[b]?)->w.heap.size<=wB.heap.size->wB.eo=w.eo->QQ k O' w->QQ k O' wB)
 (hW:∀(R:Nat->Prop) (A:World->Prop) (wB:World),(∀b,K b->R b)->(∀b,Bs k b\/K b->wB.heap[b]?=w.heap[b]?)->w.heap.size<=wB.heap.size->wB.eo=w.eo->CallWay Tryz.prog false R A XNone 101 #[.pointer (some ⟨pv k,0,none⟩),sv k] (Bs k) wB fun _=>QQ k) :
 Child K ab n cp pv sv Bs QQ w Wg bx k:=fun R ic pc wB hR hc hs hz ho hl hlt=>
 qpm hk hc (fun O a b hr=>hQ O a b (fun x hx=>hr.own x (hx.imp id (hR x))) hr.size hr.os) hl (fun hb=>by have:=hB Wg hb;omega) hlt (hW R (WgLive 148 Wg) wB hR hs hz ho)
end
end Go.Cr
