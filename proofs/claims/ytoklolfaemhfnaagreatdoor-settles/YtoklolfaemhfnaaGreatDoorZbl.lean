/-
  Settles: at every setting (with all the room in the network that there may be) and every script, whatever it does to the network and whoever it crashes (nobody is suspected but who has crashed), the law returns true: if more than half of the newest view that one of those up is in are up, then after forty turns (all suspect just the crashed; a Round) all that are up are in one view of just them, nobody is blocked, or out, or holds anything, and their rows are the same. The arguments read as they did. The run starts goroutines: on every tape it returns, without a race, all joined. The card: the two listed tables of math/bits are tied to the program's text.
  Conditions: none but the form's own.
-/
import Derived.Test.YtoklolfaemhfnaaGreatDoorCards
import Derived.Test.YtoklolfaemhfnaaGreatDoorTie
import Derived.JoinedOf
import Derived.ProofKit
import Derived.LaidMore
import Derived.OpenShut
import Derived.Stop.Joined
import Derived.Lib.SmallJoins
import Derived.Lib.LaidTab
import Derived.Deep.Slices
import Derived.SevenTiedAt
import Derived.MakeChecks
import Derived.Stop.LaidErr
import Derived.Conc.Holds
import Derived.Leaving
import Derived.Test.YtoklolfaemhfnaaGreatDoorZbk
set_option maxRecDepth 100000
set_option maxHeartbeats 0
set_option linter.defProp false
open Go.Proofs.Tryz
namespace Go.Proofs.YtoklolfaemhfnaaGreatDoor.settles
open Go.Proofs.Y
section
open Go.ChangeShapes Go.WideShapes Go.ChangeAt Go.RowKit Go.Joins
open Go.Cr Go.Conc
variable {W:Δ}{fuel len cap:Nat}{sa:ϣ}
def Ri:ownKnob prog.godebug=none:=κ
def Rf:laidOutB prog=true:=κ
def QO:prog.cellsOf 23=3:=κ
def Q2:prog.cellsOf 3=1:=κ
def QL:prog.cellsOf 5=1:=κ
def Q3:prog.cellsOf 9=1:=κ
def QB:prog.cellsOf 51=5:=κ
def QI:prog.cellsOf 276=32:=κ
def QK:prog.cellsOf 277=64:=κ
def Qy{H:Type}{enc:ϟ×Θ->H}{P:ϛ}{f:Func}{s:ChangeSpec}{apart fresh handsOn:Bool}{W':Δ}{args:ϡ}{v:Θ}{ds gs:List (DataW H)}{before pa pv:List MemPlace}(hW:DataW.Whole enc P f.params.toList s.vars apart W args.toList ds gs before)(hres:∀(b:Nat)(sp:Nat->Bool)(hd:Bool),DataW.TrodAll enc P W' b sp hd f.resultTypes.toList (v.resultList f.resultTypes.size) (s.fn H (ds++gs)).results [])(hargs:DataW.TrodAll enc P W' 0 (λb=>decide (b<W)) true f.params.toList args.toList (s.fn H (ds++gs)).args pa)(hvars:DataW.TrodVars enc P W' (λb=>decide (b<W)) s.vars (s.fn H (ds++gs)).vars pv)(hps:before=pa++pv)(hk:W.keptBut W' (·∈before)):s.post enc P f apart fresh handsOn false W args v W':=by
 refine⟨ds,gs,before,[],pa,pv,hW,hres _ _ _,hargs,hvars,World.keptBut_mono (λp hp=>⟨hp,?_⟩) hk,λh=>by cases h⟩;rw[hps,yz]at hp;exact Or.inr hp
def QM(os:Os)(args:ϡ):laidMetH prog Rows.settlesRow.laid ((World.doorLaid prog 400 os).forCall (λ_ _=>0) ⟨#[],args,[]⟩).memory:=
 laidMetH_of_parts3 (fuel:=8) (laidMet_of_run' 8 κ κ) κ κ
def QX(W:Δ):Prop:=∀b off u,b<2->W.cell? (aT b off)=some u->∃z,u=.int .u8 z
def QP(h:laidMetH prog Rows.settlesRow.laid W):Tabs W/\QX W:=by
 rw[Go.MakeChecks.laidMetH_plain _ _ _ κ]at h;have h':laidMet prog [("math/bits.deBruijn32tab",Go.Lib.tabData .u8 iy.toList),("math/bits.deBruijn64tab",Go.Lib.tabData .u8 gO.toList)] W:=h;have g32:prog.globalNamed "math/bits.deBruijn32tab" =some 0:=κ;have g64:prog.globalNamed "math/bits.deBruijn64tab" =some 1:=κ;have h1:=Go.Lib.tabIs_of_head (t:=276) (e:=5) (n:=32) g32 κ underlying276 underlying5 QL QI h';have h2:=Go.Lib.tabIs_of_head (t:=277) (e:=5) (n:=64) g64 κ underlying277 underlying5 QL QK (laidMet.tail h');refine⟨⟨λi hi=>?_,λi hi=>?_⟩,λb off u hb hc=>?_⟩;have:=h1.cell g32 i (by simpa[iy]using hi);rw[this];simp[Array.getD_eq_getD_getElem?,List.getD_eq_getElem?_getD];have:=h2.cell g64 i (by simpa[gO]using hi);rw[this];simp[Array.getD_eq_getD_getElem?,List.getD_eq_getElem?_getD];match b,hb with
 |0,_=>
  rw[World.var?_cell g32 h1 off]at hc;simp only[ya7,yZ,yE]at hc;obtain⟨z,-,rfl⟩:=hc;exact⟨z,rfl⟩
 |1,_=>
  rw[World.var?_cell g64 h2 off]at hc;simp only[ya7,yZ,yE]at hc;obtain⟨z,-,rfl⟩:=hc;exact⟨z,rfl⟩
def Qr{z:Int}(h:(Lit.int .i64 z).wf=true):j7 z:=by simp[Lit.wf,IntKind.min,IntKind.max,IntKind.signed,IntKind.bits]at h;exact⟨ω,ω⟩
section
variable {H:Type}{enc:ϟ×Θ->H}
def QG{base:Nat}{sp:Nat->Bool}{held:Bool}{cs:Ϣ}{x:DataW H×List MemPlace}(h:DataW.trod enc prog W base sp held fuel 51 cs=some x):∃kd a b c t,cs=[J kd,J a,J b,J c,.string t]/\j7 kd/\j7 a/\j7 b/\j7 c:=by
 obtain⟨xs,n,rfl,-,hl,hxl,hall⟩:=DataW.trod_struct underlying51 h;rw[QB]at hl;match cs,hl with
 |[v0,v1,v2,v3,v4],_=>
  have hx5:xs.length=5:=hxl;have e0:DataW.trod enc prog W base sp held n 3 ([v0,v1,v2,v3,v4].take (prog.cellsOf 3))=xs[0]?:=hall 0 _ rfl;have e1:DataW.trod enc prog W base sp held n 3 ([v1,v2,v3,v4].take (prog.cellsOf 3))=xs[1]?:=hall 1 _ rfl;have e2:DataW.trod enc prog W base sp held n 3 ([v2,v3,v4].take (prog.cellsOf 3))=xs[2]?:=hall 2 _ rfl;have e3:DataW.trod enc prog W base sp held n 3 ([v3,v4].take (prog.cellsOf 3))=xs[3]?:=hall 3 _ rfl;have e4:DataW.trod enc prog W base sp held n 9 ([v4].take (prog.cellsOf 9))=xs[4]?:=hall 4 _ rfl;rw[Q2,yh ω]at e0 e1 e2 e3;rw[Q3,yh ω]at e4;obtain⟨kd,q0,-,w0⟩:=DataW.trod_int underlying3 e0;obtain⟨a,q1,-,w1⟩:=DataW.trod_int underlying3 e1;obtain⟨b,q2,-,w2⟩:=DataW.trod_int underlying3 e2;obtain⟨c,q3,-,w3⟩:=DataW.trod_int underlying3 e3;obtain⟨t,q4,-,-⟩:=DataW.trod_string underlying9 e4;simp only[List.take,Kv,and_true]at q0 q1 q2 q3 q4;subst q0 q1 q2 q3 q4;exact⟨kd,a,b,c,t,rfl,Qr w0,Qr w1,Qr w2,Qr w3⟩
def Qv(W:Δ):List (Nat×Obj):=(List.range W.heap.size).filterMap λb=>if 2<=b then (W.heap[b]?).map λo=>(b,o) else none
def sn{x:Nat×Obj}:x∈Qv W↔2<=x.1/\W.heap[x.1]?=some x.2:=by obtain⟨b,o⟩:=x;simp only[Qv,List.mem_filterMap,zD];constructor;rintro⟨c,hc,h⟩;split at h;obtain⟨o',ho,e⟩:=yE.1 h;simp only[CN]at e;obtain⟨rfl,rfl⟩:=e;exact⟨by assumption,ho⟩;cases h;rintro⟨h2,hb⟩;refine⟨b,(yk.1 hb).1,?_⟩;rw[if_pos h2,hb];rfl
def QH{w w':Δ}{a:Addr}(h:w'.heap[a.block]?=w.heap[a.block]?):w'.cell? a=w.cell? a:=by unfold World.cell?;rw[h]
def Q5{x:DataW H×List MemPlace}(hT:QX W)(h:DataW.trod enc prog W 0 (λ_=>true) true fuel 26 [.slice sa len cap]=some x):len<=9223372036854775807/\KR (Qv W) sa len:=by
 rcases Go.Deep.open_slice underlying26 h with ⟨e,-⟩|⟨a,len',cap',m,n,D,Pl,e,-,hl,hm,hmm,-,hel⟩;simp only[Kv,Value.slice.injEq,and_true]at e;obtain⟨rfl,rfl,rfl⟩:=e;exact⟨ω,λi hi=>ω⟩;simp only[Kv,Value.slice.injEq,and_true]at e;obtain⟨rfl,rfl,rfl⟩:=e;refine⟨by simp only[maxLen]at hm;omega,λi hi=>?_⟩;obtain⟨cs',h1,h2⟩:=hel i (by simp only[if_true]at hmm;omega);obtain⟨kd,p,q,r,t,rfl,k0,k1,k2,k3⟩:=QG h2;rw[QB]at h1;have hc:∀j u,(aP kd p q r t)[j]?=some u->W.cell? ((a.add (i*5)).add j)=some u:=λj u hu=>by have hj:j<5:=(yk.1 hu).1;rw[(World.cells?_some h1).2.2 j hj];simpa using hu
 refine⟨a,_,kd,p,q,r,t,rfl,rfl,k0,k1,k2,k3,λO wa hs=>?_⟩;generalize a.add (i*5)=ad at hc;have c0:W.cell? ad=some (J kd):=hc 0 _ rfl;have hblk:∀j,(ad.add j).block=ad.block:=λj=>by unfold Addr.add;split<;>rfl
 have hlt:ad.block<W:=World.block_lt_of_cell? W _ c0;have h2:2<=ad.block:=by
  by_cases hb:2<=ad.block
  exact hb;obtain⟨b,off,spot⟩:=ad;rcases spot with _|_;obtain⟨z,hz⟩:=hT b off _ (by simpa using hb) c0;cases hz;unfold World.cell? at c0;split at c0<;>simp at c0
 obtain⟨ho,hh⟩:=hs (ad.block,W.heap[ad.block]) (sn.2 ⟨h2,by simp[hlt]⟩);refine⟨ho,λj u hu=>?_⟩;rw[<-hc j u hu];refine QH ?_;rw[hblk,hh];simp[hlt]
end
def Q1:(begin prog (λ_ _=>0) default).world.heap.size=7:=κ
def QN:prog.globals.size=2:=κ
def Rg(hT:Tabs W)(h10:7<=W.heap.size){c0 c1 c2:Int}(h0:j7 c0)(h1:j7 c1)(h2:j7 c2)(hlen:len<=9223372036854775807)(hscr:KR (Qv W) sa len):CO prog (λv w'=>v=.bool true/\w'.eo=W.eo/\∀b,b<W.heap.size->w'.heap[b]?=W.heap[b]?) (solo (G (Frame.enter prog 11 #[.agg #[J c0,J c1,J c2],.slice sa len cap] .normal) []) W) #[]:=by
 have hO:qp (λb=>2<=b/\b<W) (λb=>b<2) W:=⟨λb hb=>hb.2,λb hb=>ω,λb hb hk=>ω⟩;have hm:=Qz (cap:=cap) hT h10 (λx hx=>⟨⟨(sn.1 hx).1,(yk.1 (sn.1 hx).2).1⟩,(sn.1 hx).2⟩) hO h0 h1 h2 hlen hscr;have hk:=hm.d (K0:=λb=>b<2) (H0:=λb=>W.heap[b]?) (e0:=W.eo) (λb hb=>⟨hb,λh=>ω,ω,rfl⟩) (λh=>absurd rfl h) rfl;obtain⟨N,last,o,w,t',a1,a2,a3,a4⟩:=xq hk hO.c hO.a hO.ok;obtain⟨v,rfl,⟨⟨rfl,hs⟩,he,hb⟩,a5⟩:=a4;refine⟨N,last,_,w,t',a1,a2,a3,_,rfl,⟨rfl,he,λb hlt=>?_⟩,a5⟩;by_cases h2:b<2;exact hb b h2;have:=hs (b,W.heap[b]) (sn.2 ⟨by show 2<=b;omega,by simp[hlt]⟩);simpa[hlt]using this
def Q4(os:Os)(started:os.Started)(H:Type)(enc:ϟ×Θ->H):ReturnsInLeavingWide {} Tryz.checked os 11 .any (λw args=>(Rows.settlesSpec.pre enc prog f11 [] false w args/\laidMetH prog Rows.settlesRow.laid w)/\sizedMet enc prog f11 (OpenSpec.ofChange Rows.settlesSpec) false w args) (Rows.settlesSpec.post enc prog f11 false true false false):=by
 refine returnsInLeavingWide_of_good (C:=Tryz.checked) Ri started
  (ChangeSpec.witness_shaped (enc:=enc) (C:=Tryz.checked) (os:=os) (X:=λw _=>laidMetH prog Rows.settlesRow.laid w) false (World.doorLaid prog 400 os) #[.agg #[J 0,J 0,J 0],sN] 8 rfl (World.shaped_of_RefB κ κ) κ κ κ (QM os _)) ?_
 intro w tape i _ hsh _ hok hpre _;obtain⟨_,_,_,fn',hfn',_,_,_,_,hval0⟩:=hok;have e:fn'=f11:=Option.some.inj (hfn'.symm.trans func11);subst e;obtain⟨⟨⟨ds,gs,before,hw,_⟩,hx⟩,_⟩:=hpre;have hW:=DataW.Whole.of_heap (w':=w.forCall tape i) (by rfl) hw;have hL:=laidMetH.of_heap (w':=w.forCall tape i) (by rfl) hx;clear hw hx hfn';generalize w.heap.size=base at hval0;generalize w.forCall tape i=W at*;obtain⟨_,args,_⟩:=i;simp only at hW hval0|-;have h7:7<=W.heap.size:=by have h:=hsh.2 6 (show prog.globals.size<=6 by rw[QN];decide) (show 6<(begin prog (λ_ _=>0) default).world.heap.size by rw[Q1];decide);obtain⟨o,_,ho,_⟩:=h;have:=(yk.1 ho).1;omega
 have hval:∀(j:Nat)t v,f11.params[j]?=some t->args[j]?=some v->Value.okWide prog W .any base t v:=hval0;have hW':=hW;obtain⟨p,q,hA0,hV,rfl,hfz,hnd⟩:=hW;have hA:DataW.TrodAll enc prog W 0 (λ_=>true) true f11.params.toList args.toList ds p:=hA0;rw[Tryz.params11]at hA hval;obtain⟨v0,v1,d0,d1,p0,p1,rfl,rfl,rfl,t0,t1⟩:=trodAll_two hA;obtain⟨rfl,rfl⟩:=trodVars_none hV;have t0':=t0;have t1':=t1;obtain⟨c0,c1,c2,y0,y1,y2,m,rfl,rfl,hp0,hy0,hy1,hy2⟩:=open_agg3 underlying23 κ QO (hval 0 23 v0 rfl rfl) t0;obtain⟨x,e0,rfl,wx⟩:=DataW.trod_int underlying3 hy0;obtain⟨y,e1,rfl,wy⟩:=DataW.trod_int underlying3 hy1;obtain⟨z,e2,rfl,wz⟩:=DataW.trod_int underlying3 hy2;simp at e0 e1 e2;subst e0 e1 e2;obtain⟨sa,len,cap,rfl⟩:=okWide_slice underlying26 (hval 1 26 v1 rfl rfl);clear hA0 hval0;simp only[IX]at hW';have hlt:∀x∈p0++p1,x.block<W:=λx hx=>by simpa using hW'.lt x hx
 obtain⟨hT,hS⟩:=QP hL;obtain⟨fuel,hf⟩:=t1;obtain⟨hlen,hscr⟩:=Q5 hS hf;obtain⟨M,last,o,w',t',b1,b2,b3,v,rfl,⟨rfl,he,hb⟩,b5⟩:=Rg (cap:=cap) hT h7 (Qr wx) (Qr wy) (Qr wz) hlen hscr;refine⟨M,last,_,w',t',b1,b2,b3,_,rfl,ChangeSpec.post_blind ?_,b5⟩;have hsz:W.heap.size<=w':=by have h1:W.heap[W.heap.size-1]?=some (W.heap[W.heap.size-1]'ω):=yl ω;have:=(yk.1 ((hb (W.heap.size-1) ω).trans h1)).1;omega
 have hB:Below W W {w' with tape:=W.tape}:=⟨congrArg Prod.fst he,rfl,congrArg Prod.snd he,hsz,hb⟩;exact Qy (pa:=p0++p1) (pv:=[]) hW' (λ_ _ _=>trodAll_mk1 (shut_bool underlying4 _))
  (DataW.TrodAll.of_heap (w:={w' with tape:=W.tape}) (w':=w') rfl (trodAll_mk2 (Below.trod Rf κ (of_decide_eq_true κ) t0' hB λx hx=>hlt x (List.mem_append_left _ hx)) (Below.trod Rf κ (of_decide_eq_true κ) t1' hB λx hx=>hlt x (List.mem_append_right _ hx)))) rfl ς (hB.frame _)
theorem Rk:joinedFacts prog 11 f11 Rows.settlesSpec Rows.settlesRow=true:=κ
def Rj:Rows.SettlesSaid:=
 OpenClaim.holds_of_wide_leaving 11 f11 rfl rfl rfl rfl rfl rfl rfl ⟨rfl,rfl,rfl,rfl,rfl⟩ rfl rfl rfl rfl rfl κ func11 Rk
  (of_decide_eq_true κ) (by unfold Func.isWrapper;first|(rw[if_pos (by decide+kernel)];kernel_rfl)|(rw[if_neg (by decide+kernel)];exact⟨rfl,rfl⟩))
  (λos started H enc _=>Q4 os started H enc)
def Rh:Claim7.holdsOne Tryz.pinned (.plain (OpenSpec.ofChange Rows.settlesSpec)) Rows.settlesCard:=
 Claim7.tied_new_at .later [.data,.data] true (Claim7.new_of_sixth Rj (true, "16538adf66972231827d652470a0db078b033e0ac1e5dcbe421a8ea9f412f1ef") false rfl ⟨rfl,rfl⟩ κ rfl
  (λf fn hf hfn=>by
   obtain rfl:f=11:=Option.some.inj ((show prog.funcNamed "chorus/choruslaw.Settles" =some 11 by kernel_rfl).symm.trans hf) |>.symm;obtain rfl:fn=f11:=(Option.some.inj (func11.symm.trans hfn)).symm;exact⟨κ,λj t ht=>by
    rw[Tryz.params11]at ht;have hm:t∈[23,26]:=by simpa using yaj ht
    have hall:([23,26].all λu=>!prog.wantsStandIn u)=true:=κ;exact(show prog.wantsStandIn t=false by simpa using y5.1 hall t hm)⟩)) κ
theorem proved:Rows.SettlesCardSaid:=
 ⟨Rh,(λ_ h=>by cases h),settles_row_tie,(λh=>by cases h),κ⟩
#print axioms proved
