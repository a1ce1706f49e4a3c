/-
  Same: at every setting and every script, whatever it does to the network and whoever it crashes or suspects, the law returns true: the Change table reads and refuses as it should; every process tells of its views as a chain, each view's group is the one before without those it leaves behind, and who is out stays out; of any two processes that both install a view, and come to it from the same one, each has delivered in the old view just what the other has, with the same texts, and they install the same group. The arguments read as they did. The run starts goroutines (a Round's workers): on every tape it returns, without a race, all of them joined. The card: the two listed tables of math/bits are tied to the program's text.
  Conditions: none but the form's own.
-/
import Derived.Test.YtoklolfaemhfnaaGreatDoorCards
import Derived.Test.YtoklolfaemhfnaaGreatDoorTie
import Derived.JoinedOf
import Derived.ProofKit
import Derived.LaidMore
import Derived.OpenShut
import Derived.Stop.Joined
import Derived.Lib.SmallJoins
import Derived.Lib.LaidTab
import Derived.Deep.Slices
import Derived.SevenTiedAt
import Derived.MakeChecks
import Derived.Stop.LaidErr
import Derived.Conc.Holds
import Derived.Leaving
import Derived.Test.YtoklolfaemhfnaaGreatDoorZbk
set_option maxRecDepth 100000
set_option maxHeartbeats 0
set_option linter.defProp false
open Go.Proofs.Tryz
namespace Go.Proofs.Y
section
open Go.RowKit
open Go.Cr Go.Conc
open Go.Pm (Rely Perm Sup Ext Ev)
open Md (PS Grp Book GW RI)
variable {cf:Frame}{rest:List Frame}{sa:Option Addr}{len cap:Nat}
section
def Kt(Post:Θ->Ξ)(Wg:Nat):(ϑ)->Goroutine->Ξ:=λO g w=>qp O (λb=>b<2) w->aC prog 148 Post Wg [] .free O (λb=>b<2) g w
section
variable {Wg:Nat}{O:ϑ}{wa:Δ}{Post:Θ->Ξ}{g:Goroutine}
def gZ(hown:qp O (λb=>b<2) wa)(h:Pm.Way prog true (λb=>b<2) (Al 148 Wg .free) (XS Wg .free) (Kt Post Wg) O g wa):aC prog 148 Post Wg [] .free O (λb=>b<2) g wa:=by refine aC.c (lL h hown) λOW ap wg hS=>?_;obtain⟨h1,h2⟩:=hS wg (.c _ _ _ _);exact h1 h2
end
section
variable {n win lim:Nat}{fair:Bool}{P0 G0 Wg:Nat}{L:List (Nat×Obj)}{O:ϑ}{wa:Δ}{Post:Θ->Ξ}
def BF(hn:1<=n/\n<=6)(hl4:lim<=4000)(hfair:td (gN.mk n win lim fair))(h:Mq (gN.mk n win lim fair) P0 G0 (Jr (gN.mk n win lim fair)) L O wa)(hown:qp O (λb=>b<2) wa)(kd a b c:Int)(t:ByteArray)(ha:j7 a)(hb:j7 b)(hc:j7 c)(kont:∀Wg O' wa',qp O' (λb=>b<2) wa'->Mq (gN.mk n win lim fair) P0 G0 (Jr (gN.mk n win lim fair)) L O' wa'->aC prog 148 Post Wg [] .free O' (λb=>b<2) (G (cf.finish (.bool true)) rest) wa'):aC prog 148 Post Wg [] .free O (λb=>b<2) (G (Frame.enter prog 27 #[pT P0 0,.agg #[.int .i64 kd,.int .i64 a,.int .i64 b,.int .i64 c,.string t]] .normal) (cf::rest)) wa:=by
 by_cases h10:kd=10
 subst h10;exact xT hn hl4 (λb hb=>hb) h hown a b c t ha kont;exact gZ hown (DS hn hl4 hfair (λw d h=>h) (λb hb=>hb) h kd a b c t ha hb hc h10 λO' wa' h'=>.stop λdJ aJ hown'=>kont Wg O' dJ hown' (h'.rely (λb hb=>hb) aJ))
end
def nv:List Bool->Code->Code
 |[],c=>c
 |false::p,.seq a _=>nv p a
 |true::p,.seq _ b=>nv p b
 |false::p,.block _ c=>nv p c
 |false::p,.loop c=>nv p c
 |_,_=>.skip
def Mq.k{c:gN}{P0 G0:Nat}{J:zV}{L:List (Nat×Obj)}{O:ϑ}{wa:Δ}(h:Mq c P0 G0 J L O wa):∀x∈L,O x.1/\wa.heap[x.1]?=some x.2:=by obtain⟨π,w,pp,gb,FG,G,cr,h1,h2,-⟩:=h;exact λx hx=>⟨(h2 x hx).1,(h2 x hx).2.1⟩
def KR(L:List (Nat×Obj))(sa:Option Addr)(len:Nat):Prop:=∀i,i<len->∃ad ad' kd a b c t,sa=some ad/\ad.add (i*5)=ad'/\j7 kd/\j7 a/\j7 b/\j7 c/\∀(O:ϑ)(wa:Δ),(∀x∈L,O x.1/\wa.heap[x.1]?=some x.2)->O ad'.block/\∀j u,(aP kd a b c t)[j]?=some u->wa.cell? (ad'.add j)=some u
def kR(a:Addr)(w:Δ):(binOp .eql 28 (.pointer (some a)) (.pointer none)).events prog w #[]=#[]:=by
 first
 |kernel_rfl
 |rfl
 |(simp[binOp,Op.equal,Op.equalIn,go_sem,underlying28])
noncomputable def DV (p:List Bool):Code:=nv p (f13.body.getD .skip)
noncomputable def vW:Code:=DV [true,true,true,false,true,false,false]
noncomputable def IU:Code:=DV [true,true,true,true]
variable {n win lim:Nat}{fair:Bool}{P0 G0:Nat}{L:List (Nat×Obj)}{Post:Θ->Ξ}
def IB(hn:1<=n/\n<=6)(hl4:lim<=4000)(hfair:td (gN.mk n win lim fair))(hlen:len<=9223372036854775807)(hscr:KR L sa len){k:List Item}(hk:∀Wg O wa(v0 v1 v2 v3 v4 v5 v6 v8 v9 v10 v11 v12 v13 v14 v15 v16 v17 v18 v19 v20 v21 v22 v23 v24 v25 v26 v27 v28 v29:Θ),qp O (λb=>b<2) wa->Mq (gN.mk n win lim fair) P0 G0 (Jr (gN.mk n win lim fair)) L O wa->aC prog 148 Post Wg [] .free O (λb=>b<2) (G ((base 13).at ⟨(v0::v1::v2::v3::v4::v5::v6::pT P0 0::v8::v9::v10::v11::v12::v13::v14::v15::v16::v17::v18::v19::v20::v21::v22::v23::v24::v25::v26::v27::v28::v29::[]).toArray,[]⟩ k) (cf::rest)) wa):∀(r i:Nat),i+r=len->∀(Wg:Nat)(O:ϑ)(wa:Δ)(v0 v2 v3 v4 v5 v6 v9 v10 v11 v12 v13 v14 v15 v16 v17 v18 v19 v20 v21 v22 v23 v24 v25 v26 v27 v28 v29:Θ),qp O (λb=>b<2) wa->Mq (gN.mk n win lim fair) P0 G0 (Jr (gN.mk n win lim fair)) L O wa->
   aC prog 148 Post Wg [] .free O (λb=>b<2) (G ((base 13).at ⟨(v0::.slice sa len cap::v2::v3::v4::v5::v6::pT P0 0::.int .i64 ((i:Nat):Int)::v9::v10::v11::v12::v13::v14::v15::v16::v17::v18::v19::v20::v21::v22::v23::v24::v25::v26::v27::v28::v29::[]).toArray,[]⟩ (.code vW::.inLoop vW::.inBlock 0::k)) (cf::rest)) wa:=by
 have hK:∀b,b<2->(λb=>b<2) b:=λb hb=>hb;intro r;induction r with
 |zero=>
  intro i hir Wg O wa;intros;rename_i hown hI
  have hlt:¬(i:Int)<(len:Int):=ω;refine gZ hown ?_;obtain⟨LP,hLP⟩:∃LP,LP=vW:=⟨_,rfl⟩;rw[<-hLP];rw[show Item.code LP=.code vW by rw[hLP]];simp only[vW,DV,nv,f13,yv];repeat refine wN ?_
  refine wR ?_;refine wV (.int .i64 i) ?_;walk_nrm;refine wV (.slice sa len cap) ?_;walk_nrm;refine wV (.int .i64 len) ?_;walk_nrm;refine wV (.bool false) ?_;walk_nrm;repeat refine wN ?_
  refine wF ?_;refine au rfl (λ_=>stepG_exit rfl) ?_;exact .stop λdJ aJ hown'=>by apply hk Wg O dJ;exact hown';exact hI.rely hK aJ
 |succ r ih=>
  intro i hir Wg O wa;intros;rename_i hown hI
  have hil:i<len:=ω;have hlt:(i:Int)<(len:Int):=ω;have hi0:(0:Int)<=(i:Int):=ω;have hadd:IntKind.i64.wrap ((i:Int)+1)=((i+1:Nat):Int):=by rw[IntKind.wrap_i64];omega
  obtain⟨ad,ad',kd,a,b,c,t,rfl,had,hkd,ha,hb,hc,hcell⟩:=hscr i hil;refine gZ hown ?_;obtain⟨LP,hLP⟩:∃LP,LP=vW:=⟨_,rfl⟩;rw[<-hLP];rw[<-hLP]at ih;rw[show Item.code LP=.code vW by rw[hLP]];simp only[vW,DV,nv,f13,yv];repeat refine wN ?_
  refine wR ?_;refine wV (.int .i64 i) ?_;walk_nrm;refine wV (.slice (some ad) len cap) ?_;walk_nrm;refine wV (.int .i64 len) ?_;walk_nrm;refine wV (.bool true) ?_;walk_nrm;repeat refine wN ?_
  refine wT ?_;repeat refine wN ?_
  refine wR ?_;refine wV (pT P0 0) ?_;walk_nrm;refine wV (.slice (some ad) len cap) ?_;walk_nrm;refine wV (.int .i64 i) ?_;walk_nrm;refine wV (.pointer (some ad')) ?_;walk_nrm;refine ag (v:=.agg (aP kd a b c t)) rfl rfl θ (λdJ aJ=>?_) ?_
  .obtain⟨sO,sc⟩:=hcell O dJ (hI.rely hK aJ).k;have c0:dJ.cell? ad'=some (.int .i64 kd):=sc 0 _ rfl;have c1:dJ.cell? ⟨ad'.block,ad'.off+1,none⟩=some (.int .i64 a):=sc 1 _ rfl;have c2:dJ.cell? ⟨ad'.block,ad'.off+2,none⟩=some (.int .i64 b):=sc 2 _ rfl;have c3:dJ.cell? ⟨ad'.block,ad'.off+3,none⟩=some (.int .i64 c):=sc 3 _ rfl;have c4:dJ.cell? ⟨ad'.block,ad'.off+4,none⟩=some (.string t):=sc 4 _ rfl;exact⟨by go_simp,by simp[go_sem, *];exact⟨.inl sO,.inl sO,.inl sO,.inl sO,.inl sO⟩⟩
  walk_nrm;refine wA f27 ?_;walk_nrm;refine .stop λdJ aJ hown'=>?_;refine BF hn hl4 hfair (hI.rely hK aJ) hown' kd a b c t ha hb hc λWg' O' wa' hown2 hM=>?_;refine gZ hown2 ?_;rw[Frame.finish_at];walk_nrm;refine wV (.bool true) ?_;walk_nrm;repeat refine wN ?_
  refine wR ?_;refine wV (.bool true) ?_;walk_nrm;refine wV (.bool false) ?_;walk_nrm;repeat refine wN ?_
  refine wF ?_;repeat refine wN ?_
  refine wR ?_;refine wV (.int .i64 i) ?_;iterate 2 (walk_nrm;refine wV (.int .i64 ((i+1:Nat):Int)) ?_)
  walk_nrm;repeat refine wN ?_
  refine au rfl (λ_=>stepG_inLoop) ?_;exact .stop λwg bi hown3=>by apply ih (i+1) ω Wg' O' wg;exact hown3;exact hM.rely hK bi
def wH(hn:1<=n/\n<=6)(hwin:1<=win/\win<=8)(hl4:1<=lim/\lim<=4000)(hfair:td (gN.mk n win lim fair))(hlen:len<=9223372036854775807)(hscr:KR L sa len){O:ϑ}{wa:Δ}{Wg:Nat}(hown:qp O (λb=>b<2) wa)(h:M0 L O wa)(kont:∀P0 G0 Wg O' wa',qp O' (λb=>b<2) wa'->Mq (gN.mk n win lim fair) P0 G0 (Jr (gN.mk n win lim fair)) L O' wa'->aC prog 148 Post Wg [] .free O' (λb=>b<2) (G (cf.finish (pT P0 0)) rest) wa'):aC prog 148 Post Wg [] .free O (λb=>b<2) (G (Frame.enter prog 13 #[.agg #[.int .i64 n,.int .i64 win,.int .i64 lim],.slice sa len cap,.bool fair] .normal) (cf::rest)) wa:=by
 have hK:∀b,b<2->(λb=>b<2) b:=λb hb=>hb;refine gZ hown ?_;obtain⟨T0,hT0⟩:∃T0,T0=IU:=⟨_,rfl⟩;rw[enter_at _ func13 rfl];simp;walk_nrm;repeat refine wN ?_
 refine wR ?_;refine eP (f:=λ_=>.cells #[.int .i64 n,.int .i64 win,.int .i64 lim] 23) rfl rfl θ (λwg bi=>⟨by go_simp,by simp[go_sem, *]⟩) λwg bi=>?_;walk_nrm;have hI:=(h.rely hK bi).f (.cells #[.int .i64 n,.int .i64 win,.int .i64 lim] 23);obtain⟨bx,hbx⟩:∃bx,bx=wg:=⟨_,rfl⟩;rw[<-hbx]at hI⊢;generalize wg.alloc (.cells #[.int .i64 n,.int .i64 win,.int .i64 lim] 23)=w3 at hI⊢;generalize (λb=>O b\/b=bx)=O3 at hI⊢;clear h bi hbx;refine wV (.pointer none) ?_;walk_nrm;repeat refine wN ?_
 refine wR ?_;refine ag (v:=.agg #[.int .i64 n,.int .i64 win,.int .i64 lim]) rfl rfl θ (λdJ aJ=>?_) ?_
 .obtain⟨sO,sc⟩:=(hI.rely hK aJ).side (yY ..);have d0:=sc 0 _ rfl;have d1:=sc 1 _ rfl;have d2:=sc 2 _ rfl;exact⟨by go_simp,by simp[go_sem, *];exact⟨.inl sO,.inl sO,.inl sO⟩⟩
 walk_nrm;refine wV (.bool fair) ?_;walk_nrm;refine wA f25 ?_;walk_nrm;refine M0.b (c5:=(gN.mk n win lim fair)) (hI.e λx hx=>y6 _ hx) hK hn hwin hl4 λP0 G0 O5 w5 hI5=>?_;rw[Frame.finish_at];walk_nrm;refine wV (pT P0 0) ?_;walk_nrm;repeat refine wN ?_
 refine wR ?_;refine wV (pT P0 0) ?_;walk_nrm;refine ag (v:=.bool false) rfl rfl θ (λdJ aJ=>⟨by go_simp,by simp[go_sem,kR]⟩) ?_;walk_nrm;repeat refine wN ?_
 refine wF ?_;repeat refine wN ?_
 refine wR ?_;refine wV (.int .i64 ((0:Nat):Int)) ?_;walk_nrm;repeat refine wN ?_
 refine au rfl (λ_=>stepG_loop) ?_;refine .stop λdJ aJ hown1=>IB (k:=[.code IU]) hn hl4.2 hfair hlen hscr (λWg O wa v0 v1 v2 v3 v4 v5 v6 v8 v9 v10 v11 v12 v13 v14 v15 v16 v17 v18 v19 v20 v21 v22 v23 v24 v25 v26 v27 v28 v29 hown hI=>?_) len 0 ω _ _ _ _ _ _ _ _ _ _ _ _ _ _ _ _ _ _ _ _ _ _ _ _ _ _ _ _ _ _ hown1 (Mq.rely hI5 hK aJ);refine gZ hown ?_;simp only[IU,DV,nv,f13,yv];repeat refine wN ?_
 refine wR ?_;iterate 2 (refine wV (pT P0 0) ?_;walk_nrm)
 repeat refine wN ?_
 refine au rfl (λ_=>stepG_ret') ?_;exact ax rfl rfl rfl rfl rfl (.stop λwg bi hown2=>kont P0 G0 Wg O wg hown2 (hI.rely hK bi))
end
variable {O:ϑ}
section
def zy{P:Program}{b:Frame}{a:Act}{todo:List Item}{w:Δ}{fn:Func}{t:Nat}{v:Θ}(hni:P.inits.idxOf? b.fn=none)(hn:b.kind=.normal)(hd:a.defers=[])(hf:P.funcs[b.fn]?=some fn)(hr:fn.results=#[.tmp t])(hv:a.tmps.getD t undef=v):stepG P true (G {b.at a todo with mode:=.returning} []) w=.ended (.done v) w #[]:=by
 have h1:(results fn a.tmps).run P w=.ok v w:=(results_tmp hr _ P w).trans (by rw[hv]);have h2:(results fn a.tmps).events P w #[]=#[]:=events_results_tmp hr _ _;simp[G,stepG,unwind,doReturn,Frame.at,hn,hd,hf,h1,h2,seen,GStep.after,hni]
def KQ(L:List (Nat×Obj)):Θ->Ξ:=λv w=>v=.bool true/\∀x∈L,w.heap[x.1]?=some x.2
section
variable {n VB vcap:Nat}{us:List Θ}{L:List (Nat×Obj)}{K:ϑ}{A:Ξ}{X:Event->Prop}{Stop:(ϑ)->Goroutine->Ξ}
end
variable{L:List (Nat×Obj)}
end
open Md(Wf SG SI)
variable{c:Frame}{a:Nat}{ua:Θ}
def Aa(n:Nat)(J:Jt)(V:Θ)(us:List Θ)(P0:Nat)(L:List (Nat×Obj))(O:ϑ)(wa:Δ):Prop:=
 ∃(π:Perm)(w:Δ)(base:Nat)(ls:Nat->List Ev)(v:Θ)(vs:List Θ)(pp:Nat),Gh π w wa O/\lK L O π w.heap.size wa/\7<=base/\vs.length=n/\jN w base ls v vs/\v.pm π=V/\vs.map (Value.pm π)=us/\J ls/\7<=pp/\π.f pp=P0/\pp<w.heap.size/\ε w pp 1 (.int .i64 n)
section
variable {n P0:Nat}{J J':Jt}{V:Θ}{us:List Θ}{L:List (Nat×Obj)}{O K:ϑ}{A:Ξ}{X:Event->Prop}{Stop:(ϑ)->Goroutine->Ξ}{wa waB:Δ}
def Aa.b(h:Aa n J V us P0 L O wa):xj n J V us L O wa:=by obtain⟨π,w,base,ls,v,vs,pp,h1,h2,h3,h4,h5,h6,h7,h8,-⟩:=h;exact⟨π,w,base,ls,v,vs,h1,h2,h3,h4,h5,h6,h7,h8⟩
def Aa.d(h:Aa n J V us P0 L O wa)(hK:∀b,b<2->K b)(hr:Rely O K A wa waB):Aa n J V us P0 L O waB:=by obtain⟨π,w,base,ls,v,vs,pp,h1,h2,h3⟩:=h;exact⟨π,w,base,ls,v,vs,pp,h1.rely hK hr,h2.rely hr,h3⟩
def Aa.i(h:Aa n J V us P0 L O wa)(hJ:∀ls,J ls->J' ls):Aa n J' V us P0 L O wa:=by obtain⟨π,w,base,ls,v,vs,pp,h1,h2,h3,h4,h5,h6,h7,h8,h9⟩:=h;exact⟨π,w,base,ls,v,vs,pp,h1,h2,h3,h4,h5,h6,h7,hJ _ h8,h9⟩
def Aa.h(h:Aa n J V us P0 L O wa):O P0/\ε wa P0 1 (.int .i64 n):=by obtain⟨π,w,base,ls,v,vs,pp,h1,h2,h3,h4,h5,h6,h7,h8,h9,rfl,h11,h12⟩:=h;refine⟨h1.c pp h9 h11,?_⟩;have:=(h1.b h9 h12).1;simpa using this
def Aa.e(h:Aa n J V us P0 L O wa)(hK:∀b,b<2->K b){f:FuncId}(hF:fam f=true)(hlf:fam.leaf f=false)(args:List Io)(ha:∀x∈args,x.ok){r:Θ}(hr:∀ρ:Perm,r.pm ρ=r)(hc:∀w base ls v vs,7<=base->jN w base ls v vs->vs.length=n->J ls->ϖ f (args.map (Io.b v vs)).toArray w λe w'=>ϱ e r/\Below w w w')(hk:∀O' wa',Aa n J V us P0 L O' wa'->Pm.Way prog true K A X Stop O' (G (c.finish r) rest) wa'):Pm.Way prog true K A X Stop O (G (Frame.enter prog f (args.map (Io.b V us)).toArray .normal) (c::rest)) wa:=by
 obtain⟨π,w,base,ls,v,vs,pp,h1,h2,h3,hl,ht,rfl,rfl,hJ,h9,h10,h11,h12⟩:=h;have sup:∀{u:Θ}{m sz:Nat}{ty:TypeId}{xs:List Θ},w.ownsRow base ty sz u m xs->Sup fam w u:=λ{u m sz ty xs}r σ hσ=>by rcases r.2 with ⟨h0,-⟩|⟨g,cap,cur,h0,-⟩;rw[h0];simp;have hlt:=r.lt g (by rw[h0];rfl);have:σ.f g=g:=hσ.1 g (show 7<=g by omega) hlt.2;rw[h0];simp[Addr.pm,this]
 refine fE hK h1 h2 hF hlf (args:=(args.map (Io.b v vs)).toArray) (λu hu=>?_) ?_ (R:=λe w'=>ϱ e r/\(∀k,k<w.heap.size->w'.heap[k]?=w.heap[k]?)/\w.heap.size<=w') (λτ _=>?_) (λe w' h=>⟨_,h.1⟩) λv' w' π' wa' O' hR hg hL _ hsame _=>?_
 .rw[Cy]at hu;obtain⟨x,hx,rfl⟩:=yW.1 hu;have hok:=ha x hx;cases x with
  |flat u=>exact eM hok
  |all=>exact sup ht.b
  |one a=>
   show Sup fam w (vs.getD a (.bool false));rw[yj];rcases hv:vs[a]? with _|u;exact eM ς;exact sup (ht.a a u hv)
 .rw[Fj,AD];congr 1;refine GU λx hx=>?_;have hok:=ha x hx;cases x with
  |flat u=>exact hok π
  |all=>rfl
  |one a=>
   show (vs.getD a (.bool false)).pm π=(vs.map (Value.pm π)).getD a (.bool false);rw[yj,yj,yZ];cases vs[a]? <;>simp
 refine(hc (w.tp τ) base ls v vs h3 (ht.d (w':=w.tp τ) λ_ _=>rfl) hl hJ).m ?_;rintro w' hbl;exact⟨rfl,λk hk=>hbl.block k hk,hbl.size⟩;obtain⟨e,hbk,hsz⟩:=hR;injection e with e;subst e;rw[hr];have pmsame:∀{u:Θ}{m sz:Nat}{ty:TypeId}{xs:List Θ},w.ownsRow base ty sz u m xs->u.pm π'=u.pm π:=λ{u m sz ty xs}r=>by rcases r.2 with ⟨h0,-⟩|⟨g,cap,cur,h0,-⟩;rw[h0];simp;rw[h0];simp[Addr.pm,hsame g (r.lt g (by rw[h0];rfl)).2]
 refine hk O' wa' ⟨π',w',base,ls,v,vs,pp,hg,hL,h3,hl,ht.d hbk,pmsame ht.b,GU λu hu=>?_,hJ,h9,(hsame pp h11).trans h10,yg h11 hsz,(World.cell?_of_block (a:=(aT pp 1)) (hbk pp h11)).trans h12⟩;obtain⟨k,hk1⟩:=Kp.1 hu;exact pmsame (ht.a k u hk1)
end
section
variable {c5:gN}{P0 G0:Nat}{J:zV}{L:List (Nat×Obj)}{O K:ϑ}{A:Ξ}{X:Event->Prop}{Stop:(ϑ)->Goroutine->Ξ}{wa:Δ}
def Mq.Hf(h:Mq c5 P0 G0 J L O wa)(hJ:∀G cr,J G cr->GW G/\G.n=c5.n)(hn:c5.n<=6)(hK:∀b,b<2->K b)(hk:∀V us O' wa',Aa c5.n (λls=>∃G cr,J G cr/\ls=λi=>(G.b i).j) V us P0 L O' wa'->Pm.Way prog true K A X Stop O' (Conc.G (c.finish (.tuple #[V,.bool true])) rest) wa'):Pm.Way prog true K A X Stop O (Conc.G (Frame.enter prog 15 #[pT P0 0] .normal) (c::rest)) wa:=by
 obtain⟨π,w,pp,gb,FG,G,cr,h1,h2,rfl,h4,h5,h6,h7,h8,h9⟩:=h;have hpp:pp<w:=af.f h6;obtain⟨gw,hgn⟩:=hJ G cr h9;refine fE hK h1 h2 (f:=15) rfl rfl (args:=#[pT pp 0]) (λu hu=>?_) (by simp[Addr.pm]) (R:=λe w'=>(∃v,ϱ e (.tuple #[v,.bool true])/\∃vs:List Θ,vs.length=c5.n/\jN w' w (λi=>(G.b i).j) v vs)/\w.heap.size<=w'/\ε w' pp 1 (.int .i64 c5.n)) (λτ _=>?_) (λe w' h=>?_) λv w' π' wa' O' hR hg hL _ hsame _=>?_;simp at hu;subst hu;exact jY h5 hpp;refine(GI (w:=w.tp τ) pp h6 (h8.d rfl) gw hgn hn).mono ?_;rintro e w'⟨hb,v,rfl,vs,h1,h2⟩;refine⟨⟨v,rfl,vs,h1,h2⟩,hb.size,?_⟩;exact(World.cell?_of_block (a:=(aT pp 1)) (hb.block pp hpp)).trans (af.a h6 1 _ rfl);obtain⟨⟨v,h,-⟩,-⟩:=h;exact⟨_,h⟩;obtain⟨⟨u,e,vs,hl,ht⟩,hsz,hc1⟩:=hR;injection e with e;subst e;have:=hk (u.pm π') (vs.map (Value.pm π')) O' wa' ⟨π',w',w,_,u,vs,pp,hg,hL,h1.a.c,hl,ht,rfl,rfl,⟨G,cr,h9,rfl⟩,h5,hsame pp hpp,yg hpp hsz,hc1⟩;simpa using this
end
def Md.Chn.Im{q n:Nat}{e:Ev}:∀{l:List Ev}{v m:Int}{o:Bool}{v' m':Int}{o':Bool},e∈l->Md.Chn q n v m o l v' m' o'->0<=v->0<=e.a
 |y::l,v,m,o,v',m',o',he,⟨_,v1,m1,o1,h1,h2⟩,hv=>by
   have hy:0<=y.a/\0<=v1:=by rcases h1 with h1|h1;have:=h1.2.1;have:=h1.2.2.2.2.2.2.1;omega;have:=h1.2.1;have:=h1.2.2.2.1;omega
   rcases yF.1 he with rfl|he;exact hy.1;exact Md.Chn.Im he h2 hy.2
def JS(n:Nat):Jt:=λls=>∀q,q<n->(ls q).length<=300000000000/\(∀e∈ls q,0<=e.a/\e.a<=2147483648)/\(∃v m o,Md.Chn q n 0 (gD n) false (ls q) v m o)/\∀b,b<n->sY (ls q) (ls b)
section
variable {n P0:Nat}{V:Θ}{us:List Θ}{L:List (Nat×Obj)}{O K:ϑ}{A:Ξ}{X:Event->Prop}{Stop:(ϑ)->Goroutine->Ξ}{wa waB:Δ}
def Aa.g(h:Aa n (JS n) V us P0 L O wa)(hn6:n<=6)(hK:∀b,b<2->K b)(ha:a<n)(hua:us[a]?=some ua)(hk:∀O' wa',Aa n (JS n) V us P0 L O' wa'->Pm.Way prog true K A X Stop O' (G (c.finish (.bool true)) rest) wa'):Pm.Way prog true K A X Stop O (G (Frame.enter prog 19 #[.int .i64 a,.int .i64 n,ua] .normal) (c::rest)) wa:=by
 have:=Aa.e h hK (f:=19) rfl rfl [.flat (.int .i64 a),.flat (.int .i64 n),.one a] (by simp[Io.ok]) (r:=.bool true) ς (c:=c) (rest:=rest) (λw base ls v vs h7 ht hl hJ=>?_) hk;rw[show ([Io.flat (.int .i64 a),.flat (.int .i64 n),.one a].map (Io.b V us)).toArray=#[.int .i64 a,.int .i64 n,ua] by simp[Io.b,hua]]at this;exact this;obtain⟨j1,j2,⟨v',m',o',j3⟩,-⟩:=hJ a ha;obtain⟨u,hu⟩:∃u,vs[a]?=some u:=⟨_,yh (by rw[hl];exact ha)⟩;rw[show ([Io.flat (.int .i64 a),.flat (.int .i64 n),.one a].map (Io.b v vs)).toArray=#[.int .i64 a,.int .i64 n,u] by simp[Io.b,hu]];have r:=ht.a a u hu;obtain⟨ao,ac,hfa⟩:=bG r;subst hfa;exact DN ao ac (ls a) a n w r j1 hn6 ha j2 j3
def Aa.f(h:Aa n (JS n) V us P0 L O wa)(hK:∀b,b<2->K b){b:Nat}(ha:a<n)(hb:b<n){ub:Θ}(hua:us[a]?=some ua)(hub:us[b]?=some ub)(hk:∀O' wa',Aa n (JS n) V us P0 L O' wa'->Pm.Way prog true K A X Stop O' (G (c.finish (.bool true)) rest) wa'):Pm.Way prog true K A X Stop O (G (Frame.enter prog 20 #[ua,ub] .normal) (c::rest)) wa:=by
 have:=Aa.e h hK (f:=20) rfl rfl [.one a,.one b] (by simp[Io.ok]) (r:=.bool true) ς (c:=c) (rest:=rest) (λw base ls v vs h7 ht hl hJ=>?_) hk;rw[show ([Io.one a,.one b].map (Io.b V us)).toArray=#[ua,ub] by simp[Io.b,hua,hub]]at this;exact this;obtain⟨j1,j2,-,j4⟩:=hJ a ha;obtain⟨u,hu⟩:∃u,vs[a]?=some u:=⟨_,yh (by rw[hl];exact ha)⟩;obtain⟨u',hu'⟩:∃u,vs[b]?=some u:=⟨_,yh (by rw[hl];exact hb)⟩;rw[show ([Io.one a,.one b].map (Io.b v vs)).toArray=#[u,u'] by simp[Io.b,hu,hu']];have r:=ht.a a u hu;have r':=ht.a b u' hu';obtain⟨ao,ac,hfa⟩:=bG r;obtain⟨bo,bc,hfb⟩:=bG r';subst hfa hfb;exact DM ao bo ac bc (ls a) (ls b) w r r' j1 (hJ b hb).1 j2 (j4 b hb)
end
def Ie{c:gN}(hn:1<=c.n/\c.n<=6)(ls:Nat->List Ev)(h:∃G cr,Jr c G cr/\ls=λi=>(G.b i).j):JS c.n ls:=by obtain⟨G1,cr,hR,rfl⟩:=h;intro q hq;obtain⟨X,hX⟩:=(hR.sg hn).j;rw[(hR.a hn).n]at hX;have P:=hX.a q hq;refine⟨P.b.a7,λe he=>?_,⟨(G1.b q).b,(G1.b q).m,(G1.b q).out,?_⟩,λb hb=>wi hX hq hb⟩;have h1:=P.a.b.t e he;have h2:=P.b.view.2;refine⟨?_,ω⟩;exact Md.Chn.Im he P.e.b ω;have run:=P.e.b;rw[P.num]at run;exact run
variable {k:List Item}
noncomputable def FI(p:List Bool):Code:=nv p (f7.body.getD .skip)
noncomputable def FS:Code:=FI [true,true,true,true,true,true,true,false,true,false,false]
noncomputable def Ad:Code:=FI [true,true,true,true,true,true,true,false,true,false,false,true,false,false,true,true,true,false,false]
noncomputable def IF:Code:=FI [true,true,true,true,true,true,true,false,true,false,false,true,true]
noncomputable def IQ:Code:=FI [true,true,true,true,true,true,true,true]
def GK(VB q b n vcap:Nat)(ua ub:Θ):Nat->Θ
 |0=>sT VB n vcap
 |1=>J ((q:Nat):Int)
 |2=>pT VB q
 |3=>pT VB q
 |4=>ua
 |5=>sT VB n vcap
 |6=>J ((b:Nat):Int)
 |7=>pT VB b
 |8=>pT VB b
 |_=>ub
def He(VB P0 q n vcap:Nat)(ua:Θ):Nat->Θ
 |0=>J ((q:Nat):Int)
 |1=>pT P0 0
 |2=>pT P0 0
 |3=>pT P0 1
 |4=>pT P0 1
 |5=>J n
 |6=>sT VB n vcap
 |7=>J ((q:Nat):Int)
 |8=>pT VB q
 |9=>pT VB q
 |_=>ua
section
variable {n P0 VB vcap:Nat}{us:List Θ}{L:List (Nat×Obj)}{K:ϑ}{A:Ξ}{X:Event->Prop}{Stop:(ϑ)->Goroutine->Ξ}
def Hg(hn:1<=n/\n<=6)(hA:∀w d,A w->A (w.at d))(hK:∀b,b<2->K b){q:Nat}(hq:q<n)(hk:∀O wa(v0 v1 v2 v3 v4 v5 v8 v10 v11 v12 v13 v14 v15 v16 v17 v18 v19 v20 v21 v22 v23 v24 v25 v26 v27 v28 v29 v30 v31 v32 v33 v34 v35 v36 v37 v38 v39 v40 v41 v42 v43 v44 v45 v46 v47 v48 v49 v50 v51 v52 v53 v54 v55 v56 v57 v58 v59 v60 v61 v62 v63 v64:Θ),Aa n (JS n) (sT VB n vcap) us P0 L O wa->Pm.Way prog true K A X Stop O (G ((base 7).at ⟨(v0::v1::v2::v3::v4::v5::pT P0 0::sT VB n vcap::v8::J ((q:Nat):Int)::v10::v11::v12::v13::v14::v15::v16::v17::v18::v19::v20::v21::v22::v23::v24::v25::v26::v27::v28::v29::v30::v31::v32::v33::v34::v35::v36::v37::v38::v39::v40::v41::v42::v43::v44::v45::v46::v47::v48::v49::v50::v51::v52::v53::v54::v55::v56::v57::v58::v59::v60::v61::v62::v63::v64::[]).toArray,[]⟩ k) []) wa):∀(r b:Nat),b+r=q->∀(O:ϑ)(wa:Δ)(v0 v1 v2 v3 v4 v5 v8 v11 v12 v13 v14 v15 v16 v17 v18 v19 v20 v21 v22 v23 v24 v25 v26 v27 v28 v29 v30 v31 v32 v33 v34 v35 v36 v37 v38 v39 v40 v41 v42 v43 v44 v45 v46 v47 v48 v49 v50 v51 v52 v53 v54 v55 v56 v57 v58 v59 v60 v61 v62 v63 v64:Θ),Aa n (JS n) (sT VB n vcap) us P0 L O wa->Pm.Way prog true K A X Stop O (G ((base 7).at ⟨(v0::v1::v2::v3::v4::v5::pT P0 0::sT VB n vcap::v8::J ((q:Nat):Int)::J ((b:Nat):Int)::v11::v12::v13::v14::v15::v16::v17::v18::v19::v20::v21::v22::v23::v24::v25::v26::v27::v28::v29::v30::v31::v32::v33::v34::v35::v36::v37::v38::v39::v40::v41::v42::v43::v44::v45::v46::v47::v48::v49::v50::v51::v52::v53::v54::v55::v56::v57::v58::v59::v60::v61::v62::v63::v64::[]).toArray,[]⟩ (.code Ad::.inLoop Ad::.inBlock 2::k)) []) wa:=by
 intro r;induction r with
 |zero=>
  intro b hir O wa;intros;rename_i hI
  have hltq:¬(b:Int)<(q:Int):=by omega
  obtain⟨LP,hLP⟩:∃LP,LP=Ad:=⟨_,rfl⟩;rw[<-hLP];rw[show Item.code LP=.code Ad by rw[hLP]];simp only[Ad,FI,nv,f7,yv];repeat refine wN ?_
  refine wR ?_;refine wV (J ((b:Nat):Int)) ?_;walk_nrm;refine wV (J ((q:Nat):Int)) ?_;walk_nrm;refine wV (.bool false) ?_;walk_nrm;repeat refine wN ?_
  refine wF ?_;refine au rfl (λ_=>stepG_exit rfl) ?_;apply hk O wa;exact hI
 |succ r ih=>
  intro b hir O wa;intros;rename_i hI
  have hbn:b<n:=by omega
  have hltq:(b:Int)<(q:Int):=by omega
  have hlt:(q:Int)<(n:Int):=by omega
  have hltb:(b:Int)<(n:Int):=by omega
  have hq0:(0:Int)<=(q:Int):=by omega
  have hb0:(0:Int)<=(b:Int):=by omega
  have hadd:IntKind.i64.wrap ((b:Int)+1)=((b+1:Nat):Int):=by rw[IntKind.wrap_i64];omega
  obtain⟨ua,hua⟩:∃ua,us[q]?=some ua:=⟨_,yh (by rw[(hI.b.at hn.1).1];exact hq)⟩;obtain⟨ub,hub⟩:∃ub,us[b]?=some ub:=⟨_,yh (by rw[(hI.b.at hn.1).1];exact hbn)⟩;obtain⟨LP,hLP⟩:∃LP,LP=Ad:=⟨_,rfl⟩;rw[<-hLP];rw[<-hLP]at ih;rw[show Item.code LP=.code Ad by rw[hLP]];simp only[Ad,FI,nv,f7,yv];repeat refine wN ?_
  refine wR ?_;refine wV (J ((b:Nat):Int)) ?_;walk_nrm;refine wV (J ((q:Nat):Int)) ?_;walk_nrm;refine wV (.bool true) ?_;walk_nrm;repeat refine wN ?_
  refine wT ?_;repeat refine wN ?_
  refine jw um rfl hA ?_;refine ox (m:=10) (vals:=GK VB q b n vcap ua ub) (I:=λO w=>Aa n (JS n) (sT VB n vcap) us P0 L O w) (by kernel_rfl) ?_ ?_ _ _ hI
  .intro i hi a' rest' O' w' hd ho hI hgo;match i,hi with
   |0,_=>exact Φ (sT VB n vcap) (sT VB n vcap) ((ho 7 (by decide)).trans (by simp)) (hgo O' w' hI)
   |1,_=>exact Φ (J ((q:Nat):Int)) (J ((q:Nat):Int)) ((ho 9 (by decide)).trans (by simp)) (hgo O' w' hI)
   |2,_=>
    have e1:a'.tmps[52]?=some (sT VB n vcap):=hd 0 (by decide) 52 rfl;have e2:a'.tmps[53]?=some (J ((q:Nat):Int)):=hd 1 (by decide) 53 rfl;exact ag (v:=pT VB q) rfl rfl (by decide) (λdJ aJ=>⟨by simp[go_sem,Array.getD_eq_getD_getElem?,e1,e2,hlt,hq0],by simp[go_sem,Array.getD_eq_getD_getElem?,e1,e2,hlt,hq0]⟩) (hgo O' w' hI)
   |3,_=>exact Φ (pT VB q) (pT VB q) (hd 2 (by decide) 54 rfl) (hgo O' w' hI)
   |4,_=>
    have e1:a'.tmps[55]?=some (pT VB q):=hd 3 (by decide) 55 rfl;refine ag (v:=ua) rfl rfl (by decide) (λdJ aJ=>?_) (hgo O' w' hI);obtain⟨-,sO,sc⟩:=(hI.d hK aJ).b.at hn.1;have c1:=sc q ua hua;exact⟨by simp[go_sem,Array.getD_eq_getD_getElem?,e1,c1],by simp[go_sem,Array.getD_eq_getD_getElem?,e1,c1];exact .inl sO⟩
   |5,_=>exact Φ (sT VB n vcap) (sT VB n vcap) ((ho 7 (by decide)).trans (by simp)) (hgo O' w' hI)
   |6,_=>exact Φ (J ((b:Nat):Int)) (J ((b:Nat):Int)) ((ho 10 (by decide)).trans (by simp)) (hgo O' w' hI)
   |7,_=>
    have e1:a'.tmps[57]?=some (sT VB n vcap):=hd 5 (by decide) 57 rfl;have e2:a'.tmps[58]?=some (J ((b:Nat):Int)):=hd 6 (by decide) 58 rfl;exact ag (v:=pT VB b) rfl rfl (by decide) (λdJ aJ=>⟨by simp[go_sem,Array.getD_eq_getD_getElem?,e1,e2,hltb,hb0],by simp[go_sem,Array.getD_eq_getD_getElem?,e1,e2,hltb,hb0]⟩) (hgo O' w' hI)
   |8,_=>exact Φ (pT VB b) (pT VB b) (hd 7 (by decide) 59 rfl) (hgo O' w' hI)
   |9,_=>
    have e1:a'.tmps[60]?=some (pT VB b):=hd 8 (by decide) 60 rfl;refine ag (v:=ub) rfl rfl (by decide) (λdJ aJ=>?_) (hgo O' w' hI);obtain⟨-,sO,sc⟩:=(hI.d hK aJ).b.at hn.1;have c1:=sc b ub hub;exact⟨by simp[go_sem,Array.getD_eq_getD_getElem?,e1,c1],by simp[go_sem,Array.getD_eq_getD_getElem?,e1,c1];exact .inl sO⟩
  intro O1 wa1 hI1 l hl;have hl':=mA (L':=[[10,11]]) hl (by kernel_rfl);rw[yu]at hl';subst hl';clear hl hI;have hI:=hI1;clear hI1;simp only[AM,List.range,List.range.loop,List.foldl,dR,GK];walk_nrm;refine wA f20 ?_;walk_nrm;refine Aa.f hI hK hq hbn hua hub λO2 wa2 hI2=>?_;clear hI;have hI:=hI2;clear hI2;rw[Frame.finish_at];walk_nrm;refine wV (.bool true) ?_;walk_nrm;repeat refine wN ?_
  refine wR ?_;refine wV (.bool true) ?_;walk_nrm;refine wV (.bool false) ?_;walk_nrm;repeat refine wN ?_
  refine wF ?_;repeat refine wN ?_
  refine wR ?_;refine wV (J ((b:Nat):Int)) ?_;iterate 2 (walk_nrm;refine wV (J ((b+1:Nat):Int)) ?_)
  walk_nrm;repeat refine wN ?_
  refine au rfl (λ_=>stepG_inLoop) ?_;apply ih (b+1) (by omega) O2 wa2;exact hI
def If(hn:1<=n/\n<=6)(hA:∀w d,A w->A (w.at d))(hK:∀b,b<2->K b)(hk:∀O wa(v0 v1 v2 v3 v4 v5 v8 v9 v10 v11 v12 v13 v14 v15 v16 v17 v18 v19 v20 v21 v22 v23 v24 v25 v26 v27 v28 v29 v30 v31 v32 v33 v34 v35 v36 v37 v38 v39 v40 v41 v42 v43 v44 v45 v46 v47 v48 v49 v50 v51 v52 v53 v54 v55 v56 v57 v58 v59 v60 v61 v62 v63 v64:Θ),Aa n (JS n) (sT VB n vcap) us P0 L O wa->Pm.Way prog true K A X Stop O (G ((base 7).at ⟨(v0::v1::v2::v3::v4::v5::pT P0 0::sT VB n vcap::v8::v9::v10::v11::v12::v13::v14::v15::v16::v17::v18::v19::v20::v21::v22::v23::v24::v25::v26::v27::v28::v29::v30::v31::v32::v33::v34::v35::v36::v37::v38::v39::v40::v41::v42::v43::v44::v45::v46::v47::v48::v49::v50::v51::v52::v53::v54::v55::v56::v57::v58::v59::v60::v61::v62::v63::v64::[]).toArray,[]⟩ k) []) wa):∀(r q:Nat),q+r=n->∀(O:ϑ)(wa:Δ)(v0 v1 v2 v3 v4 v5 v8 v10 v11 v12 v13 v14 v15 v16 v17 v18 v19 v20 v21 v22 v23 v24 v25 v26 v27 v28 v29 v30 v31 v32 v33 v34 v35 v36 v37 v38 v39 v40 v41 v42 v43 v44 v45 v46 v47 v48 v49 v50 v51 v52 v53 v54 v55 v56 v57 v58 v59 v60 v61 v62 v63 v64:Θ),Aa n (JS n) (sT VB n vcap) us P0 L O wa->Pm.Way prog true K A X Stop O (G ((base 7).at ⟨(v0::v1::v2::v3::v4::v5::pT P0 0::sT VB n vcap::v8::J ((q:Nat):Int)::v10::v11::v12::v13::v14::v15::v16::v17::v18::v19::v20::v21::v22::v23::v24::v25::v26::v27::v28::v29::v30::v31::v32::v33::v34::v35::v36::v37::v38::v39::v40::v41::v42::v43::v44::v45::v46::v47::v48::v49::v50::v51::v52::v53::v54::v55::v56::v57::v58::v59::v60::v61::v62::v63::v64::[]).toArray,[]⟩ (.code FS::.inLoop FS::.inBlock 0::k)) []) wa:=by
 intro r;induction r with
 |zero=>
  intro q hir O wa;intros;rename_i hI
  have hlt:¬(q:Int)<(n:Int):=by omega
  obtain⟨LP,hLP⟩:∃LP,LP=FS:=⟨_,rfl⟩;rw[<-hLP];rw[show Item.code LP=.code FS by rw[hLP]];simp only[FS,FI,nv,f7,yv];repeat refine wN ?_
  refine wR ?_;refine wV (J ((q:Nat):Int)) ?_;walk_nrm;refine wV (sT VB n vcap) ?_;walk_nrm;refine wV (J n) ?_;walk_nrm;refine wV (.bool false) ?_;walk_nrm;repeat refine wN ?_
  refine wF ?_;refine au rfl (λ_=>stepG_exit rfl) ?_;apply hk O wa;exact hI
 |succ r ih=>
  intro q hir O wa;intros;rename_i hI
  have hqn:q<n:=by omega
  have hlt:(q:Int)<(n:Int):=by omega
  have hq0:(0:Int)<=(q:Int):=by omega
  have hadd:IntKind.i64.wrap ((q:Int)+1)=((q+1:Nat):Int):=by rw[IntKind.wrap_i64];omega
  obtain⟨ua,hua⟩:∃ua,us[q]?=some ua:=⟨_,yh (by rw[(hI.b.at hn.1).1];exact hqn)⟩;obtain⟨LB,hLB⟩:∃LB,LB=Ad:=⟨_,rfl⟩;obtain⟨LP,hLP⟩:∃LP,LP=FS:=⟨_,rfl⟩;rw[<-hLP];rw[<-hLP]at ih;rw[show Item.code LP=.code FS by rw[hLP]];simp only[FS,FI,nv,f7,yv];repeat refine wN ?_
  refine wR ?_;refine wV (J ((q:Nat):Int)) ?_;walk_nrm;refine wV (sT VB n vcap) ?_;walk_nrm;refine wV (J n) ?_;walk_nrm;refine wV (.bool true) ?_;walk_nrm;repeat refine wN ?_
  refine wT ?_;repeat refine wN ?_
  refine jw um rfl hA ?_;refine ox (m:=11) (vals:=He VB P0 q n vcap ua) (I:=λO w=>Aa n (JS n) (sT VB n vcap) us P0 L O w) (by kernel_rfl) ?_ ?_ _ _ hI
  .intro i hi a' rest' O' w' hd ho hI hgo;match i,hi with
   |0,_=>exact Φ (J ((q:Nat):Int)) (J ((q:Nat):Int)) ((ho 9 (by decide)).trans (by simp)) (hgo O' w' hI)
   |1,_=>exact Φ (pT P0 0) (pT P0 0) ((ho 6 (by decide)).trans (by simp)) (hgo O' w' hI)
   |2,_=>exact Φ (pT P0 0) (pT P0 0) (hd 1 (by decide) 34 rfl) (hgo O' w' hI)
   |3,_=>exact Φ (pT P0 0) (pT P0 1) (hd 2 (by decide) 35 rfl) (hgo O' w' hI)
   |4,_=>exact Φ (pT P0 1) (pT P0 1) (hd 3 (by decide) 36 rfl) (hgo O' w' hI)
   |5,_=>
    have e1:a'.tmps[37]?=some (pT P0 1):=hd 4 (by decide) 37 rfl;refine ag (v:=J n) rfl rfl (by decide) (λdJ aJ=>?_) (hgo O' w' hI);obtain⟨sO,c1⟩:=(hI.d hK aJ).h;exact⟨by simp[go_sem,Array.getD_eq_getD_getElem?,e1,c1],by simp[go_sem,Array.getD_eq_getD_getElem?,e1,c1];exact .inl sO⟩
   |6,_=>exact Φ (sT VB n vcap) (sT VB n vcap) ((ho 7 (by decide)).trans (by simp)) (hgo O' w' hI)
   |7,_=>exact Φ (J ((q:Nat):Int)) (J ((q:Nat):Int)) ((ho 9 (by decide)).trans (by simp)) (hgo O' w' hI)
   |8,_=>
    have e1:a'.tmps[39]?=some (sT VB n vcap):=hd 6 (by decide) 39 rfl;have e2:a'.tmps[40]?=some (J ((q:Nat):Int)):=hd 7 (by decide) 40 rfl;exact ag (v:=pT VB q) rfl rfl (by decide) (λdJ aJ=>⟨by simp[go_sem,Array.getD_eq_getD_getElem?,e1,e2,hlt,hq0],by simp[go_sem,Array.getD_eq_getD_getElem?,e1,e2,hlt,hq0]⟩) (hgo O' w' hI)
   |9,_=>exact Φ (pT VB q) (pT VB q) (hd 8 (by decide) 41 rfl) (hgo O' w' hI)
   |10,_=>
    have e1:a'.tmps[42]?=some (pT VB q):=hd 9 (by decide) 42 rfl;refine ag (v:=ua) rfl rfl (by decide) (λdJ aJ=>?_) (hgo O' w' hI);obtain⟨-,sO,sc⟩:=(hI.d hK aJ).b.at hn.1;have c1:=sc q ua hua;exact⟨by simp[go_sem,Array.getD_eq_getD_getElem?,e1,c1],by simp[go_sem,Array.getD_eq_getD_getElem?,e1,c1];exact .inl sO⟩
  intro O1 wa1 hI1 l hl;have hl':=mA (L':=[[11,12]]) hl (by kernel_rfl);rw[yu]at hl';subst hl';clear hl hI;have hI:=hI1;clear hI1;simp only[AM,List.range,List.range.loop,List.foldl,dR,He];walk_nrm;refine wA f19 ?_;walk_nrm;refine Aa.g hI hn.2 hK hqn hua λO2 wa2 hI2=>?_;clear hI;have hI:=hI2;clear hI2;rw[Frame.finish_at];walk_nrm;refine wV (.bool true) ?_;walk_nrm;repeat refine wN ?_
  refine wR ?_;refine wV (.bool true) ?_;walk_nrm;refine wV (.bool false) ?_;walk_nrm;repeat refine wN ?_
  refine wF ?_;repeat refine wN ?_
  refine wR ?_;refine wV (J ((0:Nat):Int)) ?_;walk_nrm;repeat refine wN ?_
  refine au rfl (λ_=>stepG_loop) ?_;refine Hg (k:=[.inBlock 1,.code IF,.inLoop LP,.inBlock 0]++k) hn hA hK hqn (λO3 wa3 v0 v1 v2 v3 v4 v5 v8 v10 v11 v12 v13 v14 v15 v16 v17 v18 v19 v20 v21 v22 v23 v24 v25 v26 v27 v28 v29 v30 v31 v32 v33 v34 v35 v36 v37 v38 v39 v40 v41 v42 v43 v44 v45 v46 v47 v48 v49 v50 v51 v52 v53 v54 v55 v56 v57 v58 v59 v60 v61 v62 v63 v64 hI3=>?_) q 0 (by omega) O2 wa2 _ _ _ _ _ _ _ _ _ _ _ _ _ _ _ _ _ _ _ _ _ _ _ _ _ _ _ _ _ _ _ _ _ _ _ _ _ _ _ _ _ _ _ _ _ _ _ _ _ _ _ _ _ _ _ _ _ _ _ _ _ hI;simp only[IF,FI,nv,f7,yv,Ft,List.nil_append];repeat refine wN ?_
  refine wR ?_;refine wV (J ((q:Nat):Int)) ?_;iterate 2 (walk_nrm;refine wV (J ((q+1:Nat):Int)) ?_)
  walk_nrm;repeat refine wN ?_
  refine au rfl (λ_=>stepG_inLoop) ?_;apply ih (q+1) (by omega) O3 wa3;exact hI3
end
section
section
variable {L:List (Nat×Obj)}{O K:ϑ}{A:Ξ}{X:Event->Prop}{Stop:(ϑ)->Goroutine->Ξ}{wa:Δ}
def M0.FK(h:M0 L O wa)(hK:∀b,b<2->K b){cf:Frame}{rest:List Frame}(hk:∀O' wa',M0 L O' wa'->Pm.Way prog true K A X Stop O' (G (cf.finish (.bool true)) rest) wa'):Pm.Way prog true K A X Stop O (G (Frame.enter prog 18 #[] .normal) (cf::rest)) wa:=by
 obtain⟨π,w,h1,h2⟩:=h;refine fE hK h1 h2 (f:=18) rfl rfl (args:=#[]) (λu hu=>by simp at hu) (by simp) (R:=λe _=>ϱ e (.bool true)) (λτ _=>(BC (w.tp τ) h1.f h1.a.c).mono λe w' h=>h.1) (λe w' h=>⟨_,h⟩) λv w' π' wa' O' hR hg hL _ _ _=>?_;injection hR with e;subst e;simpa using hk O' wa' ⟨π',w',hg,hL⟩
end
variable {L:List (Nat×Obj)}
def CL{W:Δ}{O:ϑ}(hT:Tabs W)(h10:7<=W.heap.size)(hL:∀x∈L,O x.1/\W.heap[x.1]?=some x.2)(hown:qp O (λb=>b<2) W){c0 c1 c2:Int}(h0:j7 c0)(h1:j7 c1)(h2:j7 c2){sa:Option Addr}{len cap:Nat}(hlen:len<=9223372036854775807)(hscr:KR L sa len):aC prog 148 (KQ L) 0 [] .free O (λb=>b<2) (G (Frame.enter prog 7 #[.agg #[J c0,J c1,J c2],.slice sa len cap] .normal) []) W:=by
 have hK:∀b,b<2->(λb=>b<2) b:=λb hb=>hb;have hM:=M0.g hT h10 hL;refine gZ hown ?_;obtain⟨L7,hL7⟩:∃L7,L7=FS:=⟨_,rfl⟩;rw[enter_at _ func7 rfl];simp only[f7];walk_nrm;repeat refine wN ?_
 refine wR ?_;refine eP (f:=λ_=>.cells #[J c0,J c1,J c2] 23) rfl rfl (by decide) (λwg bi=>⟨by go_simp,by simp[go_sem, *]⟩) λwg bi=>?_;walk_nrm;have hI:=(hM.rely hK bi).f (.cells #[J c0,J c1,J c2] 23);obtain⟨bx,hbx⟩:∃bx,bx=wg.heap.size:=⟨_,rfl⟩;rw[<-hbx]at hI⊢;generalize wg.alloc (.cells #[J c0,J c1,J c2] 23)=w3 at hI⊢;generalize (λb=>O b\/b=bx)=O3 at hI⊢;clear hM bi hbx;refine wV (.bool false) ?_;walk_nrm;repeat refine wN ?_
 refine wR ?_;refine wA f18 ?_;walk_nrm;refine M0.FK hI hK λO3' w3' hI3=>?_;clear hI;have hI:=hI3;clear hI3;rw[Frame.finish_at];walk_nrm;refine wV (.bool true) ?_;walk_nrm;repeat refine wN ?_
 refine wR ?_;refine wV (.bool true) ?_;walk_nrm;refine wV (.bool false) ?_;walk_nrm;repeat refine wN ?_
 refine wF ?_;repeat refine wN ?_
 refine wR ?_;refine ag (v:=.agg #[J c0,J c1,J c2]) rfl rfl (by decide) (λdJ aJ=>?_) ?_
 .obtain⟨sO,sc⟩:=(hI.rely hK aJ).side (yY ..);have d0:=sc 0 _ rfl;have d1:=sc 1 _ rfl;have d2:=sc 2 _ rfl;simp only[yf,yd,ye]at d0 d1 d2;exact⟨by go_simp,by simp[go_sem, *];exact⟨.inl sO,.inl sO,.inl sO⟩⟩
 walk_nrm;refine wA f14 ?_;walk_nrm;refine M0.d (hI.e λx hx=>y6 _ hx) hK c0 c1 c2 h0 h1 h2 λO4 w4 hI4=>?_;have hn:1<=1+bw c0 6/\1+bw c0 6<=6:=by have:=cM c0 (n:=6) (by omega);omega
 have hw:1<=1+bw c1 8/\1+bw c1 8<=8:=by have:=cM c1 (n:=8) (by omega);omega
 have hl:1<=1+bw c2 4000/\1+bw c2 4000<=4000:=by have:=cM c2 (n:=4000) (by omega);omega
 generalize 1+bw c0 6=n at hn⊢;generalize 1+bw c1 8=win at hw⊢;generalize 1+bw c2 4000=lim at hl⊢;clear hI;rw[Frame.finish_at];walk_nrm;refine wV (.slice sa len cap) ?_;walk_nrm;refine wA f13 ?_;walk_nrm;refine .stop λdJ aJ hown'=>?_;refine wH hn hw hl (λh=>by cases h) hlen hscr hown' (hI4.rely hK aJ) λP0 G0 Wg O5 w5 hown5 hI5=>?_;refine gZ hown5 ?_;rw[Frame.finish_at];walk_nrm;refine wV (pT P0 0) ?_;walk_nrm;repeat refine wN ?_
 refine wR ?_;refine wV (pT P0 0) ?_;walk_nrm;refine ag (v:=.bool false) rfl rfl (by decide) (λdJ aJ=>⟨by go_simp,by simp[go_sem,kR]⟩) ?_;walk_nrm;repeat refine wN ?_
 refine wF ?_;repeat refine wN ?_
 refine wR ?_;refine wV (pT P0 0) ?_;walk_nrm;refine wA f15 ?_;walk_nrm;refine Mq.Hf hI5 (λG1 cr h=>⟨(h.a hn).b hn.2 hl.2,(h.a hn).n⟩) hn.2 hK λV us O6 w6 hI6=>?_;have hI7:=hI6.i (J':=JS n) (Ie hn);obtain⟨-,VB,vcap,rfl,-,-⟩:=hI7.b.e hn.1;rw[Frame.finish_at];walk_nrm;refine wV (.tuple #[sT VB n vcap,.bool true]) ?_;iterate 2 (walk_nrm;refine wV (sT VB n vcap) ?_;walk_nrm;refine wV (.bool true) ?_)
 walk_nrm;repeat refine wN ?_
 refine wR ?_;refine wV (.bool true) ?_;walk_nrm;refine wV (.bool false) ?_;walk_nrm;repeat refine wN ?_
 refine wF ?_;repeat refine wN ?_
 refine wR ?_;refine wV (J ((0:Nat):Int)) ?_;walk_nrm;repeat refine wN ?_
 refine au rfl (λ_=>stepG_loop) ?_;refine If (k:=[.code IQ]) hn (λw d h=>h) hK (λO' wa' v0 v1 v2 v3 v4 v5 v8 v9 v10 v11 v12 v13 v14 v15 v16 v17 v18 v19 v20 v21 v22 v23 v24 v25 v26 v27 v28 v29 v30 v31 v32 v33 v34 v35 v36 v37 v38 v39 v40 v41 v42 v43 v44 v45 v46 v47 v48 v49 v50 v51 v52 v53 v54 v55 v56 v57 v58 v59 v60 v61 v62 v63 v64 hI'=>?_) n 0 (by omega) O6 w6 _ _ _ _ _ _ _ _ _ _ _ _ _ _ _ _ _ _ _ _ _ _ _ _ _ _ _ _ _ _ _ _ _ _ _ _ _ _ _ _ _ _ _ _ _ _ _ _ _ _ _ _ _ _ _ _ _ _ _ _ _ _ hI7;simp only[IQ,FI,nv,f7,yv];repeat refine wN ?_
 refine wR ?_;refine wV (.bool true) ?_;walk_nrm;repeat refine wN ?_
 refine au rfl (λ_=>stepG_ret') ?_;refine .stop λdJ aJ _=>.fin rfl λwg bi=>⟨_,_,zy (by kernel_rfl) rfl rfl rfl rfl rfl,by simp,rfl,((hI'.b.rely hK aJ).rely hK bi).f⟩
end
end
end Go.Proofs.Y
namespace Go.Proofs.YtoklolfaemhfnaaGreatDoor.same
open Go.Proofs.Y
section
open Go.ChangeShapes Go.WideShapes Go.ChangeAt Go.RowKit Go.Joins
open Go.Cr Go.Conc
variable {W:Δ}{fuel len cap:Nat}{sa:Option Addr}
def Kb:ownKnob prog.godebug=none:=by kernel_rfl
def Ig:laidOutB prog=true:=by kernel_rfl
def FT:prog.cellsOf 23=3:=by kernel_rfl
def Hj:prog.cellsOf 3=1:=by kernel_rfl
def Fo:prog.cellsOf 5=1:=by kernel_rfl
def Hl:prog.cellsOf 9=1:=by kernel_rfl
def BX:prog.cellsOf 51=5:=by kernel_rfl
def Es:prog.cellsOf 276=32:=by kernel_rfl
def Ex:prog.cellsOf 277=64:=by kernel_rfl
def Ao{H:Type}{enc:TypeId×Θ->H}{P:Program}{f:Func}{s:ChangeSpec}{apart fresh handsOn:Bool}{W':Δ}{args:Array Θ}{v:Θ}{ds gs:List (DataW H)}{before pa pv:List MemPlace}(hW:DataW.Whole enc P f.params.toList s.vars apart W args.toList ds gs before)(hres:∀(b:Nat)(sp:Nat->Bool)(hd:Bool),DataW.TrodAll enc P W' b sp hd f.resultTypes.toList (v.resultList f.resultTypes.size) (s.fn H (ds++gs)).results [])(hargs:DataW.TrodAll enc P W' 0 (λb=>decide (b<W.heap.size)) true f.params.toList args.toList (s.fn H (ds++gs)).args pa)(hvars:DataW.TrodVars enc P W' (λb=>decide (b<W.heap.size)) s.vars (s.fn H (ds++gs)).vars pv)(hps:before=pa++pv)(hk:W.keptBut W' (·∈before)):s.post enc P f apart fresh handsOn false W args v W':=by
 refine⟨ds,gs,before,[],pa,pv,hW,hres _ _ _,hargs,hvars,World.keptBut_mono (λp hp=>⟨hp,?_⟩) hk,λh=>by cases h⟩;rw[hps,yz]at hp;exact Or.inr hp
def FF(os:Os)(args:Array Θ):laidMetH prog Rows.sameRow.laid ((World.doorLaid prog 400 os).forCall (λ_ _=>0) ⟨#[],args,[]⟩).memory:=
 laidMetH_of_parts3 (fuel:=8) (laidMet_of_run' 8 (by kernel_rfl) (by kernel_rfl)) (by kernel_rfl) (by kernel_rfl)
def Gd(W:Δ):Prop:=∀b off u,b<2->W.cell? (aT b off)=some u->∃z,u=.int .u8 z
def FU(h:laidMetH prog Rows.sameRow.laid W):Tabs W/\Gd W:=by
 rw[Go.MakeChecks.laidMetH_plain _ _ _ (by kernel_rfl)]at h;have h':laidMet prog [("math/bits.deBruijn32tab",Go.Lib.tabData .u8 iy.toList),("math/bits.deBruijn64tab",Go.Lib.tabData .u8 gO.toList)] W:=h;have g32:prog.globalNamed "math/bits.deBruijn32tab" =some 0:=by kernel_rfl
 have g64:prog.globalNamed "math/bits.deBruijn64tab" =some 1:=by kernel_rfl
 have h1:=Go.Lib.tabIs_of_head (t:=276) (e:=5) (n:=32) g32 (by kernel_rfl) underlying276 underlying5 Fo Es h';have h2:=Go.Lib.tabIs_of_head (t:=277) (e:=5) (n:=64) g64 (by kernel_rfl) underlying277 underlying5 Fo Ex (laidMet.tail h');refine⟨⟨λi hi=>?_,λi hi=>?_⟩,λb off u hb hc=>?_⟩;have:=h1.cell g32 i (by simpa[iy]using hi);rw[this];simp[Array.getD_eq_getD_getElem?,List.getD_eq_getElem?_getD];have:=h2.cell g64 i (by simpa[gO]using hi);rw[this];simp[Array.getD_eq_getD_getElem?,List.getD_eq_getElem?_getD];match b,hb with
 |0,_=>
  rw[World.var?_cell g32 h1 off]at hc;simp only[ya7,yZ,yE]at hc;obtain⟨z,-,rfl⟩:=hc;exact⟨z,rfl⟩
 |1,_=>
  rw[World.var?_cell g64 h2 off]at hc;simp only[ya7,yZ,yE]at hc;obtain⟨z,-,rfl⟩:=hc;exact⟨z,rfl⟩
def xx{z:Int}(h:(Lit.int .i64 z).wf=true):j7 z:=by simp[Lit.wf,IntKind.min,IntKind.max,IntKind.signed,IntKind.bits]at h;exact⟨by omega,by omega⟩
section
variable {H:Type}{enc:TypeId×Θ->H}
def DO{base:Nat}{sp:Nat->Bool}{held:Bool}{cs:List Θ}{x:DataW H×List MemPlace}(h:DataW.trod enc prog W base sp held fuel 51 cs=some x):∃kd a b c t,cs=[J kd,J a,J b,J c,.string t]/\j7 kd/\j7 a/\j7 b/\j7 c:=by
 obtain⟨xs,n,rfl,-,hl,hxl,hall⟩:=DataW.trod_struct underlying51 h;rw[BX]at hl;match cs,hl with
 |[v0,v1,v2,v3,v4],_=>
  have hx5:xs.length=5:=hxl;have e0:DataW.trod enc prog W base sp held n 3 ([v0,v1,v2,v3,v4].take (prog.cellsOf 3))=xs[0]?:=hall 0 _ rfl;have e1:DataW.trod enc prog W base sp held n 3 ([v1,v2,v3,v4].take (prog.cellsOf 3))=xs[1]?:=hall 1 _ rfl;have e2:DataW.trod enc prog W base sp held n 3 ([v2,v3,v4].take (prog.cellsOf 3))=xs[2]?:=hall 2 _ rfl;have e3:DataW.trod enc prog W base sp held n 3 ([v3,v4].take (prog.cellsOf 3))=xs[3]?:=hall 3 _ rfl;have e4:DataW.trod enc prog W base sp held n 9 ([v4].take (prog.cellsOf 9))=xs[4]?:=hall 4 _ rfl;rw[Hj,yh (by omega)]at e0 e1 e2 e3;rw[Hl,yh (by omega)]at e4;obtain⟨kd,q0,-,w0⟩:=DataW.trod_int underlying3 e0;obtain⟨a,q1,-,w1⟩:=DataW.trod_int underlying3 e1;obtain⟨b,q2,-,w2⟩:=DataW.trod_int underlying3 e2;obtain⟨c,q3,-,w3⟩:=DataW.trod_int underlying3 e3;obtain⟨t,q4,-,-⟩:=DataW.trod_string underlying9 e4;simp only[List.take,Kv,and_true]at q0 q1 q2 q3 q4;subst q0 q1 q2 q3 q4;exact⟨kd,a,b,c,t,rfl,xx w0,xx w1,xx w2,xx w3⟩
def xO(W:Δ):List (Nat×Obj):=(List.range W.heap.size).filterMap λb=>if 2<=b then (W.heap[b]?).map λo=>(b,o) else none
def fw{x:Nat×Obj}:x∈xO W↔2<=x.1/\W.heap[x.1]?=some x.2:=by obtain⟨b,o⟩:=x;simp only[xO,List.mem_filterMap,zD];constructor;rintro⟨c,hc,h⟩;split at h;obtain⟨o',ho,e⟩:=yE.1 h;simp only[CN]at e;obtain⟨rfl,rfl⟩:=e;exact⟨by assumption,ho⟩;cases h;rintro⟨h2,hb⟩;refine⟨b,(yk.1 hb).1,?_⟩;rw[if_pos h2,hb];rfl
def DQ{w w':Δ}{a:Addr}(h:w'.heap[a.block]?=w.heap[a.block]?):w'.cell? a=w.cell? a:=by unfold World.cell?;rw[h]
def Ic{x:DataW H×List MemPlace}(hT:Gd W)(h:DataW.trod enc prog W 0 (λ_=>true) true fuel 26 [.slice sa len cap]=some x):len<=9223372036854775807/\KR (xO W) sa len:=by
 rcases Go.Deep.open_slice underlying26 h with ⟨e,-⟩|⟨a,len',cap',m,n,D,Pl,e,-,hl,hm,hmm,-,hel⟩;simp only[Kv,Value.slice.injEq,and_true]at e;obtain⟨rfl,rfl,rfl⟩:=e;exact⟨by omega,λi hi=>by omega⟩;simp only[Kv,Value.slice.injEq,and_true]at e;obtain⟨rfl,rfl,rfl⟩:=e;refine⟨by simp only[maxLen]at hm;omega,λi hi=>?_⟩;obtain⟨cs',h1,h2⟩:=hel i (by simp only[if_true]at hmm;omega);obtain⟨kd,p,q,r,t,rfl,k0,k1,k2,k3⟩:=DO h2;rw[BX]at h1;have hc:∀j u,(aP kd p q r t)[j]?=some u->W.cell? ((a.add (i*5)).add j)=some u:=λj u hu=>by have hj:j<5:=(yk.1 hu).1;rw[(World.cells?_some h1).2.2 j hj];simpa using hu
 refine⟨a,_,kd,p,q,r,t,rfl,rfl,k0,k1,k2,k3,λO wa hs=>?_⟩;generalize a.add (i*5)=ad at hc;have c0:W.cell? ad=some (J kd):=hc 0 _ rfl;have hblk:∀j,(ad.add j).block=ad.block:=λj=>by unfold Addr.add;split<;>rfl
 have hlt:ad.block<W.heap.size:=World.block_lt_of_cell? W _ c0;have h2:2<=ad.block:=by
  by_cases hb:2<=ad.block
  exact hb;obtain⟨b,off,spot⟩:=ad;rcases spot with _|_;obtain⟨z,hz⟩:=hT b off _ (by simpa using hb) c0;cases hz;unfold World.cell? at c0;split at c0<;>simp at c0
 obtain⟨ho,hh⟩:=hs (ad.block,W.heap[ad.block]) (fw.2 ⟨h2,by simp[hlt]⟩);refine⟨ho,λj u hu=>?_⟩;rw[<-hc j u hu];refine DQ ?_;rw[hblk,hh];simp[hlt]
end
def Hh:(begin prog (λ_ _=>0) default).world.heap.size=7:=by kernel_rfl
def FH:prog.globals.size=2:=by kernel_rfl
def Il(hT:Tabs W)(h10:7<=W.heap.size){c0 c1 c2:Int}(h0:j7 c0)(h1:j7 c1)(h2:j7 c2)(hlen:len<=9223372036854775807)(hscr:KR (xO W) sa len):CO prog (λv w'=>v=.bool true/\w'.eo=W.eo/\∀b,b<W.heap.size->w'.heap[b]?=W.heap[b]?) (solo (G (Frame.enter prog 7 #[.agg #[J c0,J c1,J c2],.slice sa len cap] .normal) []) W) #[]:=by
 have hO:qp (λb=>2<=b/\b<W.heap.size) (λb=>b<2) W:=⟨λb hb=>hb.2,λb hb=>by omega,λb hb hk=>by omega⟩;have hm:=CL (cap:=cap) hT h10 (λx hx=>⟨⟨(fw.1 hx).1,(yk.1 (fw.1 hx).2).1⟩,(fw.1 hx).2⟩) hO h0 h1 h2 hlen hscr;have hk:=hm.d (K0:=λb=>b<2) (H0:=λb=>W.heap[b]?) (e0:=W.eo) (λb hb=>⟨hb,λh=>by omega,by omega,rfl⟩) (λh=>absurd rfl h) rfl;obtain⟨N,last,o,w,t',a1,a2,a3,a4⟩:=xq hk hO.c hO.a hO.ok;obtain⟨v,rfl,⟨⟨rfl,hs⟩,he,hb⟩,a5⟩:=a4;refine⟨N,last,_,w,t',a1,a2,a3,_,rfl,⟨rfl,he,λb hlt=>?_⟩,a5⟩;by_cases h2:b<2;exact hb b h2;have:=hs (b,W.heap[b]) (fw.2 ⟨by show 2<=b;omega,by simp[hlt]⟩);simpa[hlt]using this
def Hp(os:Os)(started:os.Started)(H:Type)(enc:TypeId×Θ->H):ReturnsInLeavingWide {} Tryz.checked os 7 .any (λw args=>(Rows.sameSpec.pre enc prog f7 [] false w args/\laidMetH prog Rows.sameRow.laid w)/\sizedMet enc prog f7 (OpenSpec.ofChange Rows.sameSpec) false w args) (Rows.sameSpec.post enc prog f7 false true false false):=by
 refine returnsInLeavingWide_of_good (C:=Tryz.checked) Kb started
  (ChangeSpec.witness_shaped (enc:=enc) (C:=Tryz.checked) (os:=os) (X:=λw _=>laidMetH prog Rows.sameRow.laid w) false (World.doorLaid prog 400 os) #[.agg #[J 0,J 0,J 0],sN] 8 rfl (World.shaped_of_RefB (by kernel_rfl) (by kernel_rfl)) (by kernel_rfl) (by kernel_rfl) (by kernel_rfl) (FF os _)) ?_
 intro w tape i _ hsh _ hok hpre _;obtain⟨_,_,_,fn',hfn',_,_,_,_,hval0⟩:=hok;have e:fn'=f7:=Option.some.inj (hfn'.symm.trans func7);subst e;obtain⟨⟨⟨ds,gs,before,hw,_⟩,hx⟩,_⟩:=hpre;have hW:=DataW.Whole.of_heap (w':=w.forCall tape i) (by rfl) hw;have hL:=laidMetH.of_heap (w':=w.forCall tape i) (by rfl) hx;clear hw hx hfn';generalize w.heap.size=base at hval0;generalize w.forCall tape i=W at*;obtain⟨_,args,_⟩:=i;simp only at hW hval0⊢;have h7:7<=W.heap.size:=by have h:=hsh.2 6 (show prog.globals.size<=6 by rw[FH];decide) (show 6<(begin prog (λ_ _=>0) default).world.heap.size by rw[Hh];decide);obtain⟨o,_,ho,_⟩:=h;have:=(yk.1 ho).1;omega
 have hval:∀(j:Nat)t v,f7.params[j]?=some t->args[j]?=some v->Value.okWide prog W .any base t v:=hval0;have hW':=hW;obtain⟨p,q,hA0,hV,rfl,hfz,hnd⟩:=hW;have hA:DataW.TrodAll enc prog W 0 (λ_=>true) true f7.params.toList args.toList ds p:=hA0;rw[Tryz.params7]at hA hval;obtain⟨v0,v1,d0,d1,p0,p1,rfl,rfl,rfl,t0,t1⟩:=trodAll_two hA;obtain⟨rfl,rfl⟩:=trodVars_none hV;have t0':=t0;have t1':=t1;obtain⟨c0,c1,c2,y0,y1,y2,m,rfl,rfl,hp0,hy0,hy1,hy2⟩:=open_agg3 underlying23 (by kernel_rfl) FT (hval 0 23 v0 rfl rfl) t0;obtain⟨x,e0,rfl,wx⟩:=DataW.trod_int underlying3 hy0;obtain⟨y,e1,rfl,wy⟩:=DataW.trod_int underlying3 hy1;obtain⟨z,e2,rfl,wz⟩:=DataW.trod_int underlying3 hy2;simp at e0 e1 e2;subst e0 e1 e2;obtain⟨sa,len,cap,rfl⟩:=okWide_slice underlying26 (hval 1 26 v1 rfl rfl);clear hA0 hval0;simp only[IX]at hW';have hlt:∀x∈p0++p1,x.block<W.heap.size:=λx hx=>by simpa using hW'.lt x hx
 obtain⟨hT,hS⟩:=FU hL;obtain⟨fuel,hf⟩:=t1;obtain⟨hlen,hscr⟩:=Ic hS hf;obtain⟨M,last,o,w',t',b1,b2,b3,v,rfl,⟨rfl,he,hb⟩,b5⟩:=Il (cap:=cap) hT h7 (xx wx) (xx wy) (xx wz) hlen hscr;refine⟨M,last,_,w',t',b1,b2,b3,_,rfl,ChangeSpec.post_blind ?_,b5⟩;have hsz:W.heap.size<=w'.heap.size:=by have h1:W.heap[W.heap.size-1]?=some (W.heap[W.heap.size-1]'(by omega)):=yl (by omega);have:=(yk.1 ((hb (W.heap.size-1) (by omega)).trans h1)).1;omega
 have hB:Below W.heap.size W {w' with tape:=W.tape}:=⟨congrArg Prod.fst he,rfl,congrArg Prod.snd he,hsz,hb⟩;exact Ao (pa:=p0++p1) (pv:=[]) hW' (λ_ _ _=>trodAll_mk1 (shut_bool underlying4 _))
  (DataW.TrodAll.of_heap (w:={w' with tape:=W.tape}) (w':=w') rfl (trodAll_mk2 (Below.trod Ig (by kernel_rfl) (of_decide_eq_true (by kernel_rfl)) t0' hB λx hx=>hlt x (List.mem_append_left _ hx)) (Below.trod Ig (by kernel_rfl) (of_decide_eq_true (by kernel_rfl)) t1' hB λx hx=>hlt x (List.mem_append_right _ hx)))) rfl (by simp) (hB.frame _)
theorem Rk:joinedFacts prog 7 f7 Rows.sameSpec Rows.sameRow=true:=by kernel_rfl
def Kc:Rows.SameSaid:=
 OpenClaim.holds_of_wide_leaving 7 f7 rfl rfl rfl rfl rfl rfl rfl ⟨rfl,rfl,rfl,rfl,rfl⟩ rfl rfl rfl rfl rfl (by kernel_rfl) func7 Rk
  (of_decide_eq_true (by kernel_rfl)) (by unfold Func.isWrapper;first|(rw[if_pos (by decide+kernel)];kernel_rfl)|(rw[if_neg (by decide+kernel)];exact⟨rfl,rfl⟩))
  (λos started H enc _=>Hp os started H enc)
def Ka:Claim7.holdsOne Tryz.pinned (.plain (OpenSpec.ofChange Rows.sameSpec)) Rows.sameCard:=
 Claim7.tied_new_at .later [.data,.data] true (Claim7.new_of_sixth Kc (true, "16538adf66972231827d652470a0db078b033e0ac1e5dcbe421a8ea9f412f1ef") false rfl ⟨rfl,rfl⟩ (by kernel_rfl) rfl
  (λf fn hf hfn=>by
   obtain rfl:f=7:=Option.some.inj ((show prog.funcNamed "chorus/choruslaw.Same" =some 7 by kernel_rfl).symm.trans hf) |>.symm;obtain rfl:fn=f7:=(Option.some.inj (func7.symm.trans hfn)).symm;exact⟨by kernel_rfl,λj t ht=>by
    rw[Tryz.params7]at ht;have hm:t∈[23,26]:=by simpa using yaj ht
    have hall:([23,26].all λu=>!prog.wantsStandIn u)=true:=by kernel_rfl
    exact(show prog.wantsStandIn t=false by simpa using y5.1 hall t hm)⟩)) (by kernel_rfl)
theorem proved:Rows.SameCardSaid:=
 ⟨Ka,(λ_ h=>by cases h),same_row_tie,(λh=>by cases h),by kernel_rfl⟩
#print axioms proved
