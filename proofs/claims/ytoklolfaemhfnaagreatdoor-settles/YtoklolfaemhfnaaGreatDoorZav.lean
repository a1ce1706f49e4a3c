import Derived.Test.YtoklolfaemhfnaaGreatDoorZab
import Derived.Test.YtoklolfaemhfnaaGreatDoorZae
import Derived.Test.YtoklolfaemhfnaaGreatDoorZau
set_option maxRecDepth 100000
set_option maxHeartbeats 0
set_option linter.defProp false
open Go.Proofs.Tryz
namespace Go.Cr
section
open Go Go.Conc Go.RowKit Go.Conc.Lib Go.ConcR.Gen Go.ConcN.Gen Go.Proofs
open Go.ConcN (WgLive)
open Go.ConcR (KK wgBlock WgAt stA smA rd wr mk DC0 WgAt.setSt WgAt.setSm)
open Go.Pm (Rely Guar Ev grow)
variable {w wL:Δ}{K O:ϑ}{X:Ϥ}{A:Ξ}{i Wg pc bx ic ab n cp:Nat}{P:ϛ}{main:Bool}{Stop:(ϑ)->Ϛ->Ξ}{pv sv:Θ}
def ov(P:ϛ)(main:Bool)(K:ϑ)(A:Ξ)(X:Ϥ)(f:FuncId)(args:ϡ)(O:ϑ)(w:Δ)(QQ:Θ->(ϑ)->Ξ):Prop:=
 ∀(Stop:(ϑ)->Ϛ->Ξ)(c:Frame)(rest:List Frame),(∀v O' w',QQ v O' w'->Pm.Way P main K A X Stop O' (G (c.finish v) rest) w')->Pm.Way P main K A X Stop O (G (Frame.enter P f args .normal) (c::rest)) w
def AX{f:ϟ}{g:Ϛ}(h:Pm.Way P main K (WgLive f Wg) X Stop O g w)(m:WgLive f Wg w)(x:¬O Wg)(j:Wg<w):Pm.Way P main K (WgLive f Wg) X (λO g w=>Stop O g w/\WgLive f Wg w) O g w:=by
 induction h with
 |stop h=>exact .stop λc a=>⟨h c a,a.d m⟩
 |@step O g w d e _ r=>
  refine .step d e λc B z C a p=>?_;obtain⟨v,t,s,l,o⟩:=e c a;rw[l]at p;obtain⟨rfl,rfl,rfl⟩:=aF p;have b:=yg j a.size;obtain⟨y,q,u⟩:=a.d m;refine r c _ _ _ a l ⟨y,q,(o.a Wg b x).trans u⟩ (λk=>?_) (yg b o.size);rcases k with k|k;grind;lia
def I7:Frame:=baseD 99
noncomputable def Fu:Frame:={(default:Frame)with fn:=prog.funcs.size,defers:=[],mode:=.panicking [goexitEntry]}
noncomputable def CQ:Code:=f99.body.getD .skip
def kV(Wg pc bx ic:Nat):Deferred:={target:=.fn (.func 99) #[pT Wg 0,pT pc 0,pT bx 0,pT ic 0],args:=#[]}
def AI(b a d c:Nat)(w:Δ):stepG prog false (born prog (kV b a d c)) w=
 .go (G (I7.at ⟨#[pT b 0,pT a 0,pT d 0,pT c 0,undef,undef,undef,undef,undef,undef],[]⟩ [.code CQ]) [Fu]) w #[]:=by
 simp[born,kV,stepG,unwind,callDeferred,invoke,callFunc,func99,f99,seen,GStep.after,G,Frame.enter,Frame.at,I7,baseD,Fu,CQ]
def AT(T:ϡ):QuitsD prog 2 0 (G {I7.at ⟨T,[]⟩ []with mode:=.returning} [Fu]):=by refine QuitsD.ctl (g':=G Fu []) rfl (λw=>?_) ?_;simp[G,stepG,unwind,doReturn,results,Frame.at,I7,baseD,Fu,func99,f99,seen,GStep.after,goexitEntry];refine QuitsD.ctl (g':={G Fu []with status:=.finished}) rfl (λw=>?_) ⟨rfl,rfl⟩;simp[G,stepG,unwind,Fu,goexitEntry,Frame.catches];rfl
def Kz:(f101.name== "runtime.NumGoroutine")=false:=κ
def um:prog.follows .mixedOrders=true:=κ
structure CK(K:ϑ)(pc bx ic ab i n cp:Nat)(pv sv:Θ)(w:Δ):Prop where
 kp:K pc
 kb:K bx
 ki:K ic
 ka:K ab
 p:w.cell? (aT pc 0)=some pv
 b:w.cell? (aT bx 0)=some (sT ab n cp)
 ix:w.cell? (aT ic 0)=some (J i)
 a:w.cell? (aT ab i)=some sv
def cU{b:Nat}(e:wL.heap[b]?=w.heap[b]?)(o:Nat):wL.cell? (aT b o)=w.cell? (aT b o):=by simp[World.cell?,e]
def CK.rely(h:CK K pc bx ic ab i n cp pv sv w)(c:Rely O K A w wL):CK K pc bx ic ab i n cp pv sv wL:=
 ⟨h.kp,h.kb,h.ki,h.ka,(cU (c.a _ (.inr h.kp)) 0).trans h.p,(cU (c.a _ (.inr h.kb)) 0).trans h.b,(cU (c.a _ (.inr h.ki)) 0).trans h.ix,(cU (c.a _ (.inr h.ka)) i).trans h.a⟩
def iO{b:Frame}{a:Act}{k:List Item}{g:List Frame}{d:Array Oper}{f:Ϙ}{o:Oper}(v:Θ)(h:Pm.Way P main K A X Stop O (G (b.at (a.put o.dst v) (.inRegion d f::k)) g) w)(q:d[i]?=some o:=by exact rfl)(j:Region.wanted o (yielded d a.tmps)=true:=by exact rfl)(m:b.kind≠.early:=by decide)(l:∀c,Rely O K A w c->(execOp a.eval o).run P c=.ok (.value v) c/\∀e∈(execOp a.eval o).events P c #[],Pm.Ev O K e:=by exact λc bm=>by (have hc:=CK.rely ‹CK _ _ _ _ _ _ _ _ _ _ _› bm;have hp:=hc.p;have hb:=hc.b;have hix:=hc.ix;have ha:=hc.a;refine⟨by go_simp,λe he=>?_⟩;simp[go_sem, *]at he;subst he;first|exact .inr ⟨hc.kp,rfl,rfl⟩|exact .inr ⟨hc.kb,rfl,rfl⟩|exact .inr ⟨hc.ki,rfl,rfl⟩|exact .inr ⟨hc.ka,rfl,rfl⟩)):Pm.Way P main K A X Stop O (G (b.at a (.inRegion d (i::f)::k)) g) w:=ag q j m l h
def Hs(QQ:bE)(Wg:Nat)(O:ϑ)(g:Ϛ)(w:Δ):Prop:=
 QQ O w/\∃T:ϡ,g=G {I7.at ⟨T,[dcall 100 #[pT Wg 0]]⟩ []with mode:=.returning} [Fu]
set_option maxRecDepth 100000 in
def AK(e:∀w d,A w->A (w.at d))(k:i<n)(m:CK K pc bx ic ab i n cp pv sv w){c:bE}(j:∀O w a,Rely O K A w a->c O w->c O a)(h:ov prog false K A X 101 #[pv,sv] O w λ_=>c):Pm.Way prog false K A X (Hs c Wg) O (born prog (kV Wg pc bx ic)) w:=by
 apply au rfl (AI Wg pc bx ic);refine wN ?_;refine wR ?_;refine au rfl (λ_=>stepG_defer rfl rfl θ rfl) ?_;refine wN ?_;refine jw um (L:=[[0,1,2,3,4,5],[0,2,1,3,4,5],[1,0,2,3,4,5],[1,2,0,3,4,5],[1,2,3,0,4,5],[1,2,3,4,0,5],[2,0,1,3,4,5],[2,1,0,3,4,5],[2,1,3,0,4,5],[2,1,3,4,0,5]]) κ e λl f=>?_;simp only[yF,yU,or_false]at f;rcases f with rfl|rfl|rfl|rfl|rfl|rfl|rfl|rfl|rfl|rfl;apply iO pv;apply iO (sT ab n cp);apply iO (J i);apply wV (pT ab i);apply iO sv;rotate_left;apply iO pv;walk_nrm;apply iO (J i);walk_nrm;apply iO (sT ab n cp);walk_nrm;apply wV (pT ab i);walk_nrm;apply iO sv;walk_nrm;rotate_left;apply iO (sT ab n cp);walk_nrm;apply iO pv;walk_nrm;apply iO (J i);walk_nrm;apply wV (pT ab i);walk_nrm;apply iO sv;walk_nrm;rotate_left;apply iO (sT ab n cp);walk_nrm;apply iO (J i);walk_nrm;apply iO pv;walk_nrm;apply wV (pT ab i);walk_nrm;apply iO sv;walk_nrm;rotate_left;apply iO (sT ab n cp);walk_nrm;apply iO (J i);walk_nrm;apply wV (pT ab i);walk_nrm;apply iO pv;walk_nrm;apply iO sv;walk_nrm;rotate_left;apply iO (sT ab n cp);walk_nrm;apply iO (J i);walk_nrm;apply wV (pT ab i);walk_nrm;apply iO sv;walk_nrm;apply iO pv;walk_nrm;rotate_left;apply iO (J i);walk_nrm;apply iO pv;walk_nrm;apply iO (sT ab n cp);walk_nrm;apply wV (pT ab i);walk_nrm;apply iO sv;walk_nrm;rotate_left;apply iO (J i);walk_nrm;apply iO (sT ab n cp);walk_nrm;apply iO pv;walk_nrm;refine wV (pT ab i) ?_;walk_nrm;refine iO sv ?_;walk_nrm;rotate_left;refine iO (J i) ?_;walk_nrm;refine iO (sT ab n cp) ?_;walk_nrm;refine wV (pT ab i) ?_;walk_nrm;refine iO pv ?_;walk_nrm;refine iO sv ?_;walk_nrm;rotate_left;refine iO (J i) ?_;walk_nrm;refine iO (sT ab n cp) ?_;walk_nrm;refine wV (pT ab i) ?_;walk_nrm;refine iO sv ?_;walk_nrm;refine iO pv ?_;walk_nrm;rotate_left;all_goals
  refine dS rfl rfl θ rfl func101 Kz κ ?_;walk_nrm;refine h _ _ _ λv p o g=>?_;rw[Frame.finish_at];walk_nrm;refine wN ?_;refine au rfl (λ_=>stepG_end) ?_;exact .stop λa b=>⟨j _ _ _ b g,_,rfl⟩
