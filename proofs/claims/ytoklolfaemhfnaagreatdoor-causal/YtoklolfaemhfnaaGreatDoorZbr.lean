/-
  Causal: at every setting and every script (whatever the network does, whoever is suspected or crashes, Rounds among them) the law returns true: each process has delivered each message once at most, only such as were cast, with that text, and behind all that its caster had delivered ahead of it in the same view; the arguments read as they did. The run starts goroutines (a Round's workers): on every tape it returns, without a race, all of them joined. The card: the two listed tables of math/bits are tied to the program's text.
  Conditions: none but the form's own.
-/
import Derived.Test.YtoklolfaemhfnaaGreatDoorCards
import Derived.Test.YtoklolfaemhfnaaGreatDoorTie
import Derived.JoinedOf
import Derived.ProofKit
import Derived.LaidMore
import Derived.OpenShut
import Derived.Stop.Joined
import Derived.Lib.SmallJoins
import Derived.Lib.LaidTab
import Derived.Deep.Slices
import Derived.SevenTiedAt
import Derived.MakeChecks
import Derived.Stop.LaidErr
import Derived.Conc.Holds
import Derived.Leaving
import Derived.Test.YtoklolfaemhfnaaGreatDoorZbq
set_option maxRecDepth 100000
set_option maxHeartbeats 0
set_option linter.defProp false
namespace Go.Proofs.YtoklolfaemhfnaaGreatDoor
section
open Go.RowKit
open Go.Cr Go.Conc
open Go.Pm (Rely Perm Sup Ext Ev)
open Md (PS Grp Book GW RI)
variable {O:Nat->Prop}
section
def zy{P:Program}{b:Frame}{a:Act}{todo:List Item}{w:World}{fn:Func}{t:Nat}{v:Value}(hni:P.inits.idxOf? b.fn=none)(hn:b.kind=.normal)(hd:a.defers=[])(hf:P.funcs[b.fn]?=some fn)(hr:fn.results=#[.tmp t])(hv:a.tmps.getD t undef=v) :
 stepG P true (G { b.at a todo with mode:=.returning } []) w=.ended (.done v) w #[]:=by
 have h1:(results fn a.tmps).run P w=.ok v w:=(results_tmp hr _ P w).trans (by rw[hv]);have h2:(results fn a.tmps).events P w #[]=#[]:=events_results_tmp hr _ _;simp[G,stepG,unwind,doReturn,Frame.at,hn,hd,hf,h1,h2,seen,GStep.after,hni]
def KQ(L:List (Nat × Obj)):Value->World->Prop:=fun v w=>v=.bool true/\∀x∈L,w.heap[x.1]?=some x.2
def xj.a{n:Nat}{J J':Jt}{V:Value}{us:List Value}{L:List (Nat × Obj)}{wa:World}(h:xj n J V us L O wa)(hJ:∀ls,J ls->J' ls):xj n J' V us L O wa:=by
 obtain⟨π,w,base,ls,v,vs,h1,h2,h3,h4,h5,h6,h7,h8⟩:=h;exact⟨π,w,base,ls,v,vs,h1,h2,h3,h4,h5,h6,h7,hJ _ h8⟩
def K1{c:gN}(hn:1<=c.n/\c.n<=6)(hl:c.b<=4000)(ls:Nat->List Ev)(h:∃G cr,Jr c G cr/\ls=fun i=>(G.b i).j):JC c.n ls:=by
 obtain⟨G1,cr,hR,rfl⟩:=h;intro q hq;have hi:=hR.a hn;obtain⟨C,hC⟩:=hi.a;have hq2:q<G1.n:=by rw[hi.n];exact hq
 refine⟨((hi.b hn.2 hl).a q hq2).a7,Gx hC hq2,?_⟩;have:=F2 hC hq2;rw[hi.n] at this;exact this
noncomputable def KV (p:List Bool):Code:=nv p (Tryz.f5.body.getD .skip)
noncomputable def Gq:Code:=KV [true,true,true,true,true,false,true,false,false]
noncomputable def LW:Code:=KV [true,true,true,true,true,true]
section
variable {n VB vcap:Nat}{us:List Value}{L:List (Nat × Obj)}{K:Nat->Prop}{A:World->Prop}{X:Event->Prop}{Stop:(Nat->Prop)->Goroutine->World->Prop}
def K3(hn:1<=n/\n<=6)(hK:∀b,b<2->K b){k:List Item}
 (hk:∀O wa (v0 v1 v2 v3 v4 v5 v6 v7 v8 v9 v10 v11 v12 v13 v14 v15 v16 v17 v18 v19 v20 v21 v22 v23 v24 v25 v26 v27 v28 v29 v30 v31 v32 v33 v34 v35 v36 v37 v38 v39 v40 v41 v42 v43 v44 v45 v46 v47 v48 v49:Value),xj n (JC n) (sT VB n vcap) us L O wa->Go.Pm.Way Tryz.prog true K A X Stop O (G ((base 5).at ⟨(v0::v1::v2::v3::v4::v5::v6::v7::v8::v9::v10::v11::v12::v13::v14::v15::v16::v17::v18::v19::v20::v21::v22::v23::v24::v25::v26::v27::v28::v29::v30::v31::v32::v33::v34::v35::v36::v37::v38::v39::v40::v41::v42::v43::v44::v45::v46::v47::v48::v49::[]).toArray,[]⟩ k) []) wa) :
 ∀ (r q : Nat), q + r = n -> ∀ (O : Nat -> Prop) (wa : World) (v0 v1 v2 v3 v4 v5 v7 v9 v10 v11 v12 v13 v14 v15 v16 v17 v18 v19 v20 v21 v22 v23 v24 v25 v26 v27 v28 v29 v30 v31 v32 v33 v34 v35 v36 v37 v38 v39 v40 v41 v42 v43 v44 v45 v46 v47 v48 v49 : Value), xj n (JC n) (sT VB n vcap) us L O wa ->
   Go.Pm.Way Tryz.prog true K A X Stop O (G ((base 5).at ⟨(v0::v1::v2::v3::v4::v5::sT VB n vcap::v7::.int .i64 ((q:Nat):Int)::v9::v10::v11::v12::v13::v14::v15::v16::v17::v18::v19::v20::v21::v22::v23::v24::v25::v26::v27::v28::v29::v30::v31::v32::v33::v34::v35::v36::v37::v38::v39::v40::v41::v42::v43::v44::v45::v46::v47::v48::v49::[]).toArray,[]⟩ (.code Gq::.inLoop Gq::.inBlock 0::k)) []) wa:=by
 intro r;induction r with
 | zero =>
   intro q hir O wa;intros
   rename_i hI
   have hlt:¬(q:Int)<(n:Int):=ω;obtain⟨LP,hLP⟩:∃LP,LP=Gq:=⟨_,rfl⟩;rw[<-hLP];rw[show Item.code LP=.code Gq by rw[hLP]];simp only[Gq,KV,nv,Tryz.f5,yv];repeat refine wN ?_
   refine wR ?_;refine wV (.int .i64 ((q:Nat):Int)) ?_;walk_nrm;refine wV (sT VB n vcap) ?_;walk_nrm;refine wV (.int .i64 n) ?_;walk_nrm;refine wV (.bool false) ?_;walk_nrm;repeat refine wN ?_
   refine wF ?_;refine au rfl (fun _=>stepG_exit rfl) ?_;apply hk O wa;exact hI
 | succ r ih =>
   intro q hir O wa;intros
   rename_i hI
   have hqn:q<n:=ω;have hlt:(q:Int)<(n:Int):=ω;have hq0:(0:Int)<=(q:Int):=ω;have hadd:IntKind.i64.wrap ((q:Int)+1)=((q+1:Nat):Int):=by rw[IntKind.wrap_i64];omega
   obtain⟨ua,hua⟩:∃ua,us[q]?=some ua:=⟨_,yh (by rw[(hI.at hn.1).1];exact hqn)⟩;obtain⟨LP,hLP⟩:∃LP,LP=Gq:=⟨_,rfl⟩;rw[<-hLP];rw[<-hLP] at ih;rw[show Item.code LP=.code Gq by rw[hLP]];simp only[Gq,KV,nv,Tryz.f5,yv];repeat refine wN ?_
   refine wR ?_;refine wV (.int .i64 ((q:Nat):Int)) ?_;walk_nrm;refine wV (sT VB n vcap) ?_;walk_nrm;refine wV (.int .i64 n) ?_;walk_nrm;refine wV (.bool true) ?_;walk_nrm;repeat refine wN ?_
   refine wT ?_;repeat refine wN ?_
   refine wR ?_;refine wV (.int .i64 ((q:Nat):Int)) ?_;walk_nrm;refine wV (sT VB n vcap) ?_;walk_nrm;refine wV (.int .i64 ((q:Nat):Int)) ?_;iterate 2 (walk_nrm;refine wV (pT VB q) ?_)
   walk_nrm;refine ag (v:=ua) rfl rfl θ (fun wL h₁=>?_) ?_
   ·obtain⟨-,sO,sc⟩:=(hI.rely hK h₁).at hn.1;have c0:=sc q ua hua;exact⟨by go_simp,by simp[go_sem, *];exact .inl sO⟩
   walk_nrm;refine wA Tryz.f16 ?_;walk_nrm;refine xj.g hI hK hqn hua fun O1 wa1 hI1=>?_;clear hI;have hI:=hI1;clear hI1;rw[Frame.finish_at];walk_nrm;refine wV (.bool true) ?_;walk_nrm;repeat refine wN ?_
   refine wR ?_;refine wV (sT VB n vcap) ?_;walk_nrm;refine wV (.int .i64 ((q:Nat):Int)) ?_;iterate 2 (walk_nrm;refine wV (pT VB q) ?_)
   walk_nrm;refine ag (v:=ua) rfl rfl θ (fun wL h₁=>?_) ?_
   ·obtain⟨-,sO,sc⟩:=(hI.rely hK h₁).at hn.1;have c0:=sc q ua hua;exact⟨by go_simp,by simp[go_sem, *];exact .inl sO⟩
   walk_nrm;refine wV (sT VB n vcap) ?_;walk_nrm;refine wA Tryz.f17 ?_;walk_nrm;refine xj.b hI hK hqn hua fun O2 wa2 hI2=>?_;clear hI;have hI:=hI2;clear hI2;rw[Frame.finish_at];walk_nrm;refine wV (.bool true) ?_;walk_nrm;repeat refine wN ?_
   refine wR ?_;iterate 2 (refine wV (.bool true) ?_;walk_nrm;refine wV (.bool false) ?_;walk_nrm;refine wV (.bool false) ?_;walk_nrm)
   repeat refine wN ?_
   refine wF ?_;repeat refine wN ?_
   refine wR ?_;refine wV (.int .i64 ((q:Nat):Int)) ?_;iterate 2 (walk_nrm;refine wV (.int .i64 ((q+1:Nat):Int)) ?_)
   walk_nrm;repeat refine wN ?_
   refine au rfl (fun _=>stepG_inLoop) ?_;apply ih (q+1) ω O2 wa2;exact hI
end
variable {L:List (Nat × Obj)}
def vA{W:World}(hT:Tabs W)(h10:7<=W.heap.size)(hL:∀x∈L,O x.1/\W.heap[x.1]?=some x.2)(hown:qp O (fun b=>b<2) W){c0 c1 c2:Int}(h0:j7 c0)(h1:j7 c1)(h2:j7 c2){sa:Option Addr}{len cap:Nat}(hlen:len<=9223372036854775807)(hscr:KR L sa len) :
 aC Tryz.prog 148 (KQ L) 0 [] .free O (fun b=>b<2) (G (Frame.enter Tryz.prog 5 #[.agg #[.int .i64 c0,.int .i64 c1,.int .i64 c2],.slice sa len cap] .normal) []) W:=by
 have hK:∀b,b<2->(fun b=>b<2) b:=fun b hb=>hb;have hM:=M0.g hT h10 hL;refine gZ hown ?_;obtain⟨L5,hL5⟩:∃L5,L5=Gq:=⟨_,rfl⟩;rw[enter_at _ Tryz.func5 rfl];simp only[Tryz.f5];walk_nrm;repeat refine wN ?_
 refine wR ?_;refine eP (f:=fun _=>.cells #[.int .i64 c0,.int .i64 c1,.int .i64 c2] 23) rfl rfl θ (fun wg h₂=>⟨by go_simp,by simp[go_sem, *]⟩) fun wg h₂=>?_;walk_nrm;have hI:=(hM.rely hK h₂).f (.cells #[.int .i64 c0,.int .i64 c1,.int .i64 c2] 23);obtain⟨bx,hbx⟩:∃bx,bx=wg.heap.size:=⟨_,rfl⟩;rw[<-hbx] at hI ⊢;generalize wg.alloc (.cells #[.int .i64 c0,.int .i64 c1,.int .i64 c2] 23)=w3 at hI ⊢;generalize (fun b=>O b\/b=bx)=O3 at hI ⊢;clear hM h₂ hbx;refine wV (.bool false) ?_;walk_nrm;repeat refine wN ?_
 refine wR ?_;refine ag (v:=.agg #[.int .i64 c0,.int .i64 c1,.int .i64 c2]) rfl rfl θ (fun wL h₁=>?_) ?_
 ·obtain⟨sO,sc⟩:=(hI.rely hK h₁).side (yY ..);have d0:=sc 0 _ rfl;have d1:=sc 1 _ rfl;have d2:=sc 2 _ rfl;simp only[yf,yd,ye] at d0 d1 d2;exact⟨by go_simp,by simp[go_sem, *];exact⟨.inl sO,.inl sO,.inl sO⟩⟩
 walk_nrm;refine wA Tryz.f14 ?_;walk_nrm;refine M0.d (hI.e fun x hx=>y6 _ hx) hK c0 c1 c2 h0 h1 h2 fun O4 w4 hI4=>?_;have hn:1<=1+bw c0 6/\1+bw c0 6<=6:=by have:=cM c0 (n:=6) ω;omega
 have hw:1<=1+bw c1 8/\1+bw c1 8<=8:=by have:=cM c1 (n:=8) ω;omega
 have hl:1<=1+bw c2 4000/\1+bw c2 4000<=4000:=by have:=cM c2 (n:=4000) ω;omega
 generalize 1+bw c0 6=n at hn ⊢;generalize 1+bw c1 8=win at hw ⊢;generalize 1+bw c2 4000=lim at hl ⊢;clear hI;rw[Frame.finish_at];walk_nrm;refine wV (.slice sa len cap) ?_;walk_nrm;refine wA Tryz.f13 ?_;walk_nrm;refine .stop fun wL h₁ hown'=>?_;refine wH hn hw hl (fun h=>by cases h) hlen hscr hown' (hI4.rely hK h₁) fun P0 G0 Wg O5 w5 hown5 hI5=>?_;refine gZ hown5 ?_;rw[Frame.finish_at];walk_nrm;refine wV (pT P0 0) ?_;walk_nrm;repeat refine wN ?_
 refine wR ?_;refine wV (pT P0 0) ?_;walk_nrm;refine ag (v:=.bool false) rfl rfl θ (fun wL h₁=>⟨by go_simp,by simp[go_sem,kR]⟩) ?_;walk_nrm;repeat refine wN ?_
 refine wF ?_;repeat refine wN ?_
 refine wR ?_;refine wV (pT P0 0) ?_;walk_nrm;refine wA Tryz.f15 ?_;walk_nrm;refine Mq.l hI5 (fun G1 cr h=>⟨(h.a hn).b hn.2 hl.2,(h.a hn).n⟩) hn.2 hK fun V us O6 w6 hI6=>?_;have hI7:=hI6.a (J':=JC n) (K1 hn hl.2);obtain⟨-,VB,vcap,rfl, -, -⟩:=hI7.e hn.1;rw[Frame.finish_at];walk_nrm;refine wV (.tuple #[sT VB n vcap,.bool true]) ?_;iterate 2 (walk_nrm;refine wV (sT VB n vcap) ?_;walk_nrm;refine wV (.bool true) ?_)
 walk_nrm;repeat refine wN ?_
 refine wR ?_;refine wV (.bool true) ?_;walk_nrm;refine wV (.bool false) ?_;walk_nrm;repeat refine wN ?_
 refine wF ?_;repeat refine wN ?_
 refine wR ?_;refine wV (.int .i64 ((0:Nat):Int)) ?_;walk_nrm;repeat refine wN ?_
 refine au rfl (fun _=>stepG_loop) ?_;refine K3 (k:=[.code LW]) hn hK (fun O' wa' v0 v1 v2 v3 v4 v5 v6 v7 v8 v9 v10 v11 v12 v13 v14 v15 v16 v17 v18 v19 v20 v21 v22 v23 v24 v25 v26 v27 v28 v29 v30 v31 v32 v33 v34 v35 v36 v37 v38 v39 v40 v41 v42 v43 v44 v45 v46 v47 v48 v49 hI'=>?_) n 0 ω O6 w6 _ _ _ _ _ _ _ _ _ _ _ _ _ _ _ _ _ _ _ _ _ _ _ _ _ _ _ _ _ _ _ _ _ _ _ _ _ _ _ _ _ _ _ _ _ _ _ _ hI7;simp only[LW,KV,nv,Tryz.f5,yv];repeat refine wN ?_
 refine wR ?_;refine wV (.bool true) ?_;walk_nrm;repeat refine wN ?_
 refine au rfl (fun _=>stepG_ret') ?_;refine .stop fun wL h₁ _=>.fin rfl fun wg h₂=>⟨_,_,zy κ rfl rfl rfl rfl rfl,ς,rfl,((hI'.rely hK h₁).rely hK h₂).f⟩
end
end
end Go.Proofs.YtoklolfaemhfnaaGreatDoor
namespace Go.Proofs.YtoklolfaemhfnaaGreatDoor.causal
section
open Go.ChangeShapes Go.WideShapes Go.ChangeAt Go.RowKit Go.Joins
open Go.Cr Go.Conc
variable {W:World}{fuel len cap:Nat}{sa:Option Addr}
def L4:ownKnob Tryz.prog.godebug=none:=κ
def KW:laidOutB Tryz.prog=true:=κ
def F3:Tryz.prog.cellsOf 23=3:=κ
def Is:Tryz.prog.cellsOf 3=1:=κ
def Ee:Tryz.prog.cellsOf 5=1:=κ
def It:Tryz.prog.cellsOf 9=1:=κ
def Ae:Tryz.prog.cellsOf 51=5:=κ
def Ec:Tryz.prog.cellsOf 276=32:=κ
def Ed:Tryz.prog.cellsOf 277=64:=κ
def tE{H:Type}{enc:TypeId × Value->H}{P:Program}{f:Func}{s:ChangeSpec}{apart fresh handsOn:Bool}{W':World}{args:Array Value}{v:Value}{ds gs:List (DataW H)}{before pa pv:List MemPlace}
 (hW:DataW.Whole enc P f.params.toList s.vars apart W args.toList ds gs before)
 (hres:∀(b:Nat) (sp:Nat->Bool) (hd:Bool),DataW.TrodAll enc P W' b sp hd f.resultTypes.toList (v.resultList f.resultTypes.size) (s.fn H (ds++gs)).results [])
 (hargs:DataW.TrodAll enc P W' 0 (fun b=>decide (b<W)) true f.params.toList args.toList (s.fn H (ds++gs)).args pa)
 (hvars:DataW.TrodVars enc P W' (fun b=>decide (b<W)) s.vars (s.fn H (ds++gs)).vars pv)
 (hps:before=pa++pv) (hk:W.keptBut W' (·∈before)) :
 s.post enc P f apart fresh handsOn false W args v W':=by
 refine⟨ds,gs,before,[],pa,pv,hW,hres _ _ _,hargs,hvars,World.keptBut_mono (fun p hp=>⟨hp,?_⟩) hk,fun h=>by cases h⟩;rw[hps,yz] at hp;exact Or.inr hp
def Ef(os:Os)(args:Array Value):laidMetH Tryz.prog Rows.causalRow.laid ((World.doorLaid Tryz.prog 400 os).forCall (fun _ _=>0) ⟨#[],args,[]⟩).memory:=
 laidMetH_of_parts3 (fuel:=8) (laidMet_of_run' 8 κ κ) κ κ
def Hn(W:World):Prop:=∀b off u,b<2->W.cell? (aT b off)=some u->∃z,u=.int .u8 z
def F4(h:laidMetH Tryz.prog Rows.causalRow.laid W):Tabs W/\Hn W:=by
 rw[Go.MakeChecks.laidMetH_plain _ _ _ κ] at h;have h' : laidMet Tryz.prog [("math/bits.deBruijn32tab", Go.Lib.tabData .u8 iy.toList), ("math/bits.deBruijn64tab", Go.Lib.tabData .u8 gO.toList)] W := h;have g32 : Tryz.prog.globalNamed "math/bits.deBruijn32tab" = some 0 := κ;have g64 : Tryz.prog.globalNamed "math/bits.deBruijn64tab" = some 1 := κ;have h1:=Go.Lib.tabIs_of_head (t:=276) (e:=5) (n:=32) g32 κ Tryz.underlying276 Tryz.underlying5 Ee Ec h';have h2:=Go.Lib.tabIs_of_head (t:=277) (e:=5) (n:=64) g64 κ Tryz.underlying277 Tryz.underlying5 Ee Ed (laidMet.tail h');refine⟨⟨fun i hi=>?_,fun i hi=>?_⟩,fun b off u hb hc=>?_⟩
 ·have:=h1.cell g32 i (by simpa[iy] using hi);rw[this];simp[Array.getD_eq_getD_getElem?,List.getD_eq_getElem?_getD]
 ·have:=h2.cell g64 i (by simpa[gO] using hi);rw[this];simp[Array.getD_eq_getD_getElem?,List.getD_eq_getElem?_getD]
 ·match b,hb with
  | 0, _ =>
    rw[World.var?_cell g32 h1 off] at hc;simp only[ya7,yZ,yE] at hc;obtain⟨z, -,rfl⟩:=hc;exact⟨z,rfl⟩
  | 1, _ =>
    rw[World.var?_cell g64 h2 off] at hc;simp only[ya7,yZ,yE] at hc;obtain⟨z, -,rfl⟩:=hc;exact⟨z,rfl⟩
def lv{z:Int}(h:(Lit.int .i64 z).wf=true):j7 z:=by
 simp[Lit.wf,IntKind.min,IntKind.max,IntKind.signed,IntKind.bits] at h;exact⟨ω,ω⟩
section
variable {H:Type}{enc:TypeId × Value->H}
def Ea{base:Nat}{sp:Nat->Bool}{held:Bool}{cs:List Value}{x:DataW H × List MemPlace}(h:DataW.trod enc Tryz.prog W base sp held fuel 51 cs=some x) :
 ∃kd a b c t,cs=[J kd,J a,J b,J c,.string t]/\j7 kd/\j7 a/\j7 b/\j7 c:=by
 obtain⟨xs,n,rfl, -,hl,hxl,hall⟩:=DataW.trod_struct Tryz.underlying51 h;rw[Ae] at hl;match cs,hl with
 | [v0, v1, v2, v3, v4], _ =>
   have hx5:xs.length=5:=hxl;have e0:DataW.trod enc Tryz.prog W base sp held n 3 ([v0,v1,v2,v3,v4].take (Tryz.prog.cellsOf 3))=xs[0]?:=hall 0 _ rfl;have e1:DataW.trod enc Tryz.prog W base sp held n 3 ([v1,v2,v3,v4].take (Tryz.prog.cellsOf 3))=xs[1]?:=hall 1 _ rfl;have e2:DataW.trod enc Tryz.prog W base sp held n 3 ([v2,v3,v4].take (Tryz.prog.cellsOf 3))=xs[2]?:=hall 2 _ rfl;have e3:DataW.trod enc Tryz.prog W base sp held n 3 ([v3,v4].take (Tryz.prog.cellsOf 3))=xs[3]?:=hall 3 _ rfl;have e4:DataW.trod enc Tryz.prog W base sp held n 9 ([v4].take (Tryz.prog.cellsOf 9))=xs[4]?:=hall 4 _ rfl;rw[Is,yh ω] at e0 e1 e2 e3;rw[It,yh ω] at e4;obtain⟨kd,q0, -,w0⟩:=DataW.trod_int Tryz.underlying3 e0;obtain⟨a,q1, -,w1⟩:=DataW.trod_int Tryz.underlying3 e1;obtain⟨b,q2, -,w2⟩:=DataW.trod_int Tryz.underlying3 e2;obtain⟨c,q3, -,w3⟩:=DataW.trod_int Tryz.underlying3 e3;obtain⟨t,q4, -, -⟩:=DataW.trod_string Tryz.underlying9 e4;simp only[List.take,Kv,and_true] at q0 q1 q2 q3 q4;subst q0 q1 q2 q3 q4;exact⟨kd,a,b,c,t,rfl,lv w0,lv w1,lv w2,lv w3⟩
def oF(W:World):List (Nat × Obj):=(List.range W.heap.size).filterMap fun b=>if 2<=b then (W.heap[b]?).map fun o=>(b,o) else none
def iE{x:Nat × Obj}:x∈oF W↔2<=x.1/\W.heap[x.1]?=some x.2:=by
 obtain⟨b,o⟩:=x;simp only[oF,List.mem_filterMap,zD];constructor
 ·rintro⟨c,hc,h⟩;split at h
  ·obtain⟨o',ho,e⟩:=yE.1 h;simp only[CN] at e;obtain⟨rfl,rfl⟩:=e;exact⟨by assumption,ho⟩
  ·cases h
 ·rintro⟨h2,hb⟩;refine⟨b,(yk.1 hb).1,?_⟩;rw[if_pos h2,hb];rfl
def Eb{w w':World}{a:Addr}(h:w'.heap[a.block]?=w.heap[a.block]?):w'.cell? a=w.cell? a:=by
 unfold World.cell?;rw[h]
def Iv{x:DataW H × List MemPlace}(hT:Hn W)(h:DataW.trod enc Tryz.prog W 0 (fun _=>true) true fuel 26 [.slice sa len cap]=some x):len<=9223372036854775807/\KR (oF W) sa len:=by
 rcases Go.Deep.open_slice Tryz.underlying26 h with ⟨e, -⟩|⟨a,len',cap',m,n,D,Pl,e, -,hl,hm,hmm, -,hel⟩
 ·simp only[Kv,Value.slice.injEq,and_true] at e;obtain⟨rfl,rfl,rfl⟩:=e;exact⟨ω,fun i hi=>ω⟩
 ·simp only[Kv,Value.slice.injEq,and_true] at e;obtain⟨rfl,rfl,rfl⟩:=e;refine⟨by simp only[maxLen] at hm;omega,fun i hi=>?_⟩;obtain⟨cs',h1,h2⟩:=hel i (by simp only[if_true] at hmm;omega);obtain⟨kd,p,q,r,t,rfl,k0,k1,k2,k3⟩:=Ea h2;rw[Ae] at h1;have hc:∀j u,(aP kd p q r t)[j]?=some u->W.cell? ((a.add (i * 5)).add j)=some u:=fun j u hu=>by
   have hj:j<5:=(yk.1 hu).1;rw[(World.cells?_some h1).2.2 j hj];simpa using hu
  refine⟨a,_,kd,p,q,r,t,rfl,rfl,k0,k1,k2,k3,fun O wa hs=>?_⟩;generalize a.add (i * 5)=ad at hc;have c0:W.cell? ad=some (J kd):=hc 0 _ rfl;have hblk:∀j,(ad.add j).block=ad.block:=fun j=>by unfold Addr.add;split <;> rfl
  have hlt:ad.block<W:=World.block_lt_of_cell? W _ c0;have h2:2<=ad.block:=by
   by_cases hb:2<=ad.block
   ·exact hb
   ·obtain⟨b,off,spot⟩:=ad;cases spot with
    | none =>
      obtain⟨z,hz⟩:=hT b off _ (by simpa using hb) c0;cases hz
    | some _ =>
      unfold World.cell? at c0;split at c0 <;> simp at c0
  obtain⟨ho,hh⟩:=hs (ad.block,W.heap[ad.block]) (iE.2 ⟨h2,by simp[hlt]⟩);refine⟨ho,fun j u hu=>?_⟩;rw[<-hc j u hu];refine Eb ?_;rw[hblk,hh];simp[hlt]
end
def Ir:(begin Tryz.prog (fun _ _=>0) default).world.heap.size=7:=κ
def Eg:Tryz.prog.globals.size=2:=κ
def LD(hT:Tabs W)(h10:7<=W.heap.size){c0 c1 c2:Int}(h0:j7 c0)(h1:j7 c1)(h2:j7 c2)(hlen:len<=9223372036854775807)(hscr:KR (oF W) sa len) :
 CO Tryz.prog (fun v w'=>v=.bool true/\w'.eo=W.eo/\∀b,b<W.heap.size->w'.heap[b]?=W.heap[b]?) (solo (G (Frame.enter Tryz.prog 5 #[.agg #[J c0,J c1,J c2],.slice sa len cap] .normal) []) W) #[]:=by
 have hO:qp (fun b=>2<=b/\b<W) (fun b=>b<2) W:=⟨fun b hb=>hb.2,fun b hb=>ω,fun b hb hk=>ω⟩;have hm:=vA (cap:=cap) hT h10 (fun x hx=>⟨⟨(iE.1 hx).1,(yk.1 (iE.1 hx).2).1⟩,(iE.1 hx).2⟩) hO h0 h1 h2 hlen hscr;have hk:=hm.d (K0:=fun b=>b<2) (H0:=fun b=>W.heap[b]?) (e0:=W.eo) (fun b hb=>⟨hb,fun h=>ω,ω,rfl⟩) (fun h=>absurd rfl h) rfl;obtain⟨N,last,o,w,t',a1,a2,a3,a4⟩:=xq hk hO.c hO.a hO.ok;obtain⟨v,rfl,⟨⟨rfl,hs⟩,he,hb⟩,a5⟩:=a4;refine⟨N,last,_,w,t',a1,a2,a3,_,rfl,⟨rfl,he,fun b hlt=>?_⟩,a5⟩;by_cases h2:b<2
 ·exact hb b h2
 ·have:=hs (b,W.heap[b]) (iE.2 ⟨by show 2<=b;omega,by simp[hlt]⟩);simpa[hlt] using this
def Iu(os:Os)(started:os.Started)(H:Type)(enc:TypeId × Value->H) :
 ReturnsInLeavingWide {} Tryz.checked os 5 .any (fun w args=>(Rows.causalSpec.pre enc Tryz.prog Tryz.f5 [] false w args/\laidMetH Tryz.prog Rows.causalRow.laid w)/\sizedMet enc Tryz.prog Tryz.f5 (OpenSpec.ofChange Rows.causalSpec) false w args)
  (Rows.causalSpec.post enc Tryz.prog Tryz.f5 false true false false):=by
 refine returnsInLeavingWide_of_good (C:=Tryz.checked) L4 started
  (ChangeSpec.witness_shaped (enc:=enc) (C:=Tryz.checked) (os:=os) (X:=fun w _=>laidMetH Tryz.prog Rows.causalRow.laid w) false (World.doorLaid Tryz.prog 400 os) #[.agg #[J 0,J 0,J 0],sN] 8 rfl (World.shaped_of_RefB κ κ) κ κ κ (Ef os _)) ?_
 intro w tape i _ hsh _ hok hpre _;obtain⟨_,_,_,fn',hfn',_,_,_,_,hval0⟩:=hok;have e:fn'=Tryz.f5:=Option.some.inj (hfn'.symm.trans Tryz.func5);subst e;obtain⟨⟨⟨ds,gs,before,hw,_⟩,hx⟩,_⟩:=hpre;have hW:=DataW.Whole.of_heap (w':=w.forCall tape i) (by rfl) hw;have hL:=laidMetH.of_heap (w':=w.forCall tape i) (by rfl) hx;clear hw hx hfn';generalize w.heap.size=base at hval0;generalize w.forCall tape i=W at *;obtain⟨_,args,_⟩:=i;simp only at hW hval0 ⊢;have h7:7<=W.heap.size:=by
  have h:=hsh.2 6 (show Tryz.prog.globals.size<=6 by rw[Eg];decide) (show 6<(begin Tryz.prog (fun _ _=>0) default).world.heap.size by rw[Ir];decide);obtain⟨o,_,ho,_⟩:=h;have:=(yk.1 ho).1;omega
 have hval:∀(j:Nat) t v,Tryz.f5.params[j]?=some t->args[j]?=some v->Value.okWide Tryz.prog W .any base t v:=hval0;have hW':=hW;obtain⟨p,q,hA0,hV,rfl,hfz,hnd⟩:=hW;have hA:DataW.TrodAll enc Tryz.prog W 0 (fun _=>true) true Tryz.f5.params.toList args.toList ds p:=hA0;rw[Tryz.params5] at hA hval;obtain⟨v0,v1,d0,d1,p0,p1,rfl,rfl,rfl,t0,t1⟩:=trodAll_two hA;obtain⟨rfl,rfl⟩:=trodVars_none hV;have t0':=t0;have t1':=t1;obtain⟨c0,c1,c2,y0,y1,y2,m,rfl,rfl,hp0,hy0,hy1,hy2⟩:=open_agg3 Tryz.underlying23 κ F3 (hval 0 23 v0 rfl rfl) t0;obtain⟨x,e0,rfl,wx⟩:=DataW.trod_int Tryz.underlying3 hy0;obtain⟨y,e1,rfl,wy⟩:=DataW.trod_int Tryz.underlying3 hy1;obtain⟨z,e2,rfl,wz⟩:=DataW.trod_int Tryz.underlying3 hy2;simp at e0 e1 e2;subst e0 e1 e2;obtain⟨sa,len,cap,rfl⟩:=okWide_slice Tryz.underlying26 (hval 1 26 v1 rfl rfl);clear hA0 hval0;simp only[IX] at hW';have hlt:∀x∈p0++p1,x.block<W:=fun x hx=>by simpa using hW'.lt x hx
 obtain⟨hT,hS⟩:=F4 hL;obtain⟨fuel,hf⟩:=t1;obtain⟨hlen,hscr⟩:=Iv hS hf;obtain⟨M,last,o,w',t',b1,b2,b3,v,rfl,⟨rfl,he,hb⟩,b5⟩:=LD (cap:=cap) hT h7 (lv wx) (lv wy) (lv wz) hlen hscr;refine⟨M,last,_,w',t',b1,b2,b3,_,rfl,ChangeSpec.post_blind ?_,b5⟩;have hsz:W.heap.size<=w':=by
  have h1:W.heap[W.heap.size - 1]?=some (W.heap[W.heap.size - 1]'ω):=yl ω;have:=(yk.1 ((hb (W.heap.size - 1) ω).trans h1)).1;omega
 have hB:Below W W { w' with tape:=W.tape }:=⟨congrArg Prod.fst he,rfl,congrArg Prod.snd he,hsz,hb⟩;exact tE (pa:=p0++p1) (pv:=[]) hW' (fun _ _ _=>trodAll_mk1 (shut_bool Tryz.underlying4 _))
  (DataW.TrodAll.of_heap (w:={ w' with tape:=W.tape }) (w':=w') rfl (trodAll_mk2 (Below.trod KW κ (of_decide_eq_true κ) t0' hB (fun x hx=>hlt x (List.mem_append_left _ hx))) (Below.trod KW κ (of_decide_eq_true κ) t1' hB (fun x hx=>hlt x (List.mem_append_right _ hx))))) rfl ς (hB.frame _)
theorem Rk:joinedFacts Tryz.prog 5 Tryz.f5 Rows.causalSpec Rows.causalRow=true:=by kernel_rfl
def L6:Rows.CausalSaid:=
 OpenClaim.holds_of_wide_leaving 5 Tryz.f5 rfl rfl rfl rfl rfl rfl rfl ⟨rfl,rfl,rfl,rfl,rfl⟩ rfl rfl rfl rfl rfl κ Tryz.func5 Rk
  (of_decide_eq_true κ) (by unfold Func.isWrapper;first|(rw[if_pos (by decide +kernel)];kernel_rfl)|(rw[if_neg (by decide +kernel)];exact⟨rfl,rfl⟩))
  (fun os started H enc _=>Iu os started H enc)
def one:Claim7.holdsOne Tryz.pinned (.plain (OpenSpec.ofChange Rows.causalSpec)) Rows.causalCard:=
 Claim7.tied_new_at .later [.data, .data] true (Claim7.new_of_sixth L6 (true, "16538adf66972231827d652470a0db078b033e0ac1e5dcbe421a8ea9f412f1ef") false rfl ⟨rfl, rfl⟩ κ rfl
  (fun f fn hf hfn=>by
   obtain rfl : f = 5 := Option.some.inj ((show Tryz.prog.funcNamed "chorus/choruslaw.Causal" = some 5 by kernel_rfl).symm.trans hf) |>.symm;obtain rfl:fn=Tryz.f5:=(Option.some.inj (Tryz.func5.symm.trans hfn)).symm;exact⟨κ,fun j t ht=>by
    rw[Tryz.params5] at ht;have hm:t∈[23,26]:=by simpa using yaj ht
    have hall:([23,26].all fun u=>!Tryz.prog.wantsStandIn u)=true:=κ;exact(show Tryz.prog.wantsStandIn t=false by simpa using y5.1 hall t hm)⟩)) κ
theorem proved:Rows.CausalCardSaid:=
 ⟨one,(fun _ h=>by cases h),causal_row_tie,(fun h=>by cases h),κ⟩
#print axioms proved
