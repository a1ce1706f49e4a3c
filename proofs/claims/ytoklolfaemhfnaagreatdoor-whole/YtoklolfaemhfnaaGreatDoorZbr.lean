import Derived.Test.YtoklolfaemhfnaaGreatDoorZbl
import Derived.Test.YtoklolfaemhfnaaGreatDoorZbm
import Derived.Test.YtoklolfaemhfnaaGreatDoorZbq
set_option maxRecDepth 100000
set_option maxHeartbeats 8000000
namespace Go.Cr
section
open Go Go.Conc Go.RowKit Go.Conc.Lib Go.ConcR.Gen Go.ConcN.Gen Go.Proofs
open Go.ConcN (WgLive)
open Go.ConcR (KK wgBlock WgAt stA smA rd wr mk DC0 WgAt.setSt WgAt.setSm)
open Go.Pm (Rely Guar Ev grow)
def CallWay(P:Program)(main:Bool)(K:Nat->Prop)(A:World->Prop)(X:Event->Prop)(f:FuncId)(args:Array Value)(O:Nat->Prop)(w:World)(QQ:Value->(Nat->Prop)->World->Prop):Prop:=
 ∀(Stop:(Nat->Prop)->Goroutine->World->Prop) (c:Frame) (rest:List Frame),(∀v O' w',QQ v O' w'->Go.Pm.Way P main K A X Stop O' (G (c.finish v) rest) w')->Go.Pm.Way P main K A X Stop O (G (Frame.enter P f args .normal) (c::rest)) w
theorem qni{P:Program}{main:Bool}{K:Nat->Prop}{ty:TypeId}{Wg:Nat}{X:Event->Prop}{Stop:(Nat->Prop)->Goroutine->World->Prop}{O:Nat->Prop}{g:Goroutine}{w:World}(h:Go.Pm.Way P main K (WgLive ty Wg) X Stop O g w)(hA:WgLive ty Wg w)(hO:¬O Wg)(hlt:Wg<w.heap.size) :
 Go.Pm.Way P main K (WgLive ty Wg) X (fun O g w=>Stop O g w/\WgLive ty Wg w) O g w:=by
 induction h with
 |stop h=>exact .stop fun wB h₁=>⟨h wB h₁,h₁.live hA⟩
 | @step O g w hrun hgo _ ih =>
   refine .step hrun hgo fun wB g' w' es h₁ he=>?_;obtain⟨g'',w'',es',e1,e2⟩:=hgo wB h₁;rw[e1] at he;obtain⟨rfl,rfl,rfl⟩:=qj he;have hltB:Wg<wB.heap.size:=yg hlt h₁.size;obtain⟨st,sm,hl⟩:=h₁.live hA;refine ih wB _ _ _ h₁ e1 ⟨st,sm,(e2.frame Wg hltB hO).trans hl⟩ (fun hg=>?_) (yg hltB e2.size);rcases hg with hg|hg
   ·exact hO hg
   ·omega
def b99:Frame:=baseD 99
noncomputable def bot:Frame:={ (default:Frame) with fn:=Tryz.prog.funcs.size,defers:=[],mode:=.panicking [goexitEntry] }
noncomputable def body99:Code:=Tryz.f99.body.getD .skip
def call99(Wg pc bx ic:Nat):Deferred:={ target:=.fn (.func 99) #[pT Wg 0,pT pc 0,pT bx 0,pT ic 0],args:=#[] }
theorem qnj(Wg pc bx ic:Nat)(w:World):stepG Tryz.prog false (born Tryz.prog (call99 Wg pc bx ic)) w =
 .go (G (b99.at ⟨#[pT Wg 0,pT pc 0,pT bx 0,pT ic 0,undef,undef,undef,undef,undef,undef],[]⟩ [.code body99]) [bot]) w #[]:=by
 simp[born,call99,stepG,unwind,callDeferred,invoke,callFunc,Tryz.func99,Tryz.f99,seen,GStep.after,G,Frame.enter,Frame.at,b99,baseD,bot,body99]
theorem quitsTail(T:Array Value):QuitsD Tryz.prog 2 0 (G { b99.at ⟨T,[]⟩ [] with mode:=.returning } [bot]):=by
 refine QuitsD.ctl (g':=G bot []) rfl (fun w=>?_) ?_
 ·simp[G,stepG,unwind,doReturn,results,Frame.at,b99,baseD,bot,Tryz.func99,Tryz.f99,seen,GStep.after,goexitEntry]
 refine QuitsD.ctl (g':={ G bot [] with status:=.finished }) rfl (fun w=>?_) ⟨rfl,rfl⟩;simp[G,stepG,unwind,bot,goexitEntry,Frame.catches];rfl
theorem nm101 : (Tryz.f101.name == "runtime.NumGoroutine") = false := by kernel_rfl
theorem mixed:Tryz.prog.follows .mixedOrders=true:=by kernel_rfl
structure CK (K:Nat->Prop) (pc bx ic ab i n cp:Nat) (pv sv:Value) (w:World):Prop where
 kp:K pc
 kb:K bx
 ki:K ic
 ka:K ab
 p:w.cell? (aT pc 0)=some pv
 b:w.cell? (aT bx 0)=some (sT ab n cp)
 ix:w.cell? (aT ic 0)=some (J i)
 a:w.cell? (aT ab i)=some sv
theorem qah{w wB:World}{b:Nat}(e:wB.heap[b]?=w.heap[b]?)(o:Nat):wB.cell? (aT b o)=w.cell? (aT b o):=by simp[World.cell?,e]
theorem CK.rely{K O:Nat->Prop}{A:World->Prop}{pc bx ic ab i n cp:Nat}{pv sv:Value}{w wB:World}(h:CK K pc bx ic ab i n cp pv sv w)(hr:Rely O K A w wB):CK K pc bx ic ab i n cp pv sv wB:=
 ⟨h.kp,h.kb,h.ki,h.ka,(qah (hr.own _ (.inr h.kp)) 0).trans h.p,(qah (hr.own _ (.inr h.kb)) 0).trans h.b,(qah (hr.own _ (.inr h.ki)) 0).trans h.ix,(qah (hr.own _ (.inr h.ka)) i).trans h.a⟩
theorem wCK{P:Program}{main:Bool}{K:Nat->Prop}{A:World->Prop}{X:Event->Prop}{Stop:(Nat->Prop)->Goroutine->World->Prop}{O:Nat->Prop}{w:World}{b:Frame}{a:Act}{k:List Item}{cs:List Frame}{ops:Array Oper}{i:Nat}{rest:List Nat}{o:Oper}(v:Value)(h:Go.Pm.Way P main K A X Stop O (G (b.at (a.put o.dst v) (.inRegion ops rest::k)) cs) w)(ho:ops[i]?=some o:=by exact rfl)(hw:Region.wanted o (yielded ops a.tmps)=true:=by exact rfl)(hk:b.kind≠.early:=by decide)
 (hr:∀wB,Rely O K A w wB->(execOp a.eval o).run P wB=.ok (.value v) wB/\∀e∈(execOp a.eval o).events P wB #[],Go.Pm.Ev O K e:=by exact fun wB h₁=>by (have hc:=CK.rely ‹CK _ _ _ _ _ _ _ _ _ _ _› h₁;have hp:=hc.p;have hb:=hc.b;have hix:=hc.ix;have ha:=hc.a;refine⟨by go_simp,fun e he=>?_⟩;simp[go_sem, *] at he;subst he;first|exact .inr ⟨hc.kp,rfl,rfl⟩|exact .inr ⟨hc.kb,rfl,rfl⟩|exact .inr ⟨hc.ki,rfl,rfl⟩|exact .inr ⟨hc.ka,rfl,rfl⟩)):Go.Pm.Way P main K A X Stop O (G (b.at a (.inRegion ops (i::rest)::k)) cs) w:=qb ho hw hk hr h
def AtDone(QQ:Fact)(Wg:Nat)(O:Nat->Prop)(g:Goroutine)(w:World):Prop:=
 QQ O w/\∃T:Array Value,g=G { b99.at ⟨T,[dcall 100 #[pT Wg 0]]⟩ [] with mode:=.returning } [bot]
set_option maxRecDepth 100000 in
theorem qnk{K O:Nat->Prop}{A:World->Prop}{X:Event->Prop}(hAd:∀w d,A w->A (w.at d)){Wg pc bx ic ab i n cp:Nat}{pv sv:Value}{w:World}(hi:i<n)(hF:CK K pc bx ic ab i n cp pv sv w){QQ:Fact}(hQ:∀O w wB,Rely O K A w wB->QQ O w->QQ O wB)
 (hW:CallWay Tryz.prog false K A X 101 #[pv,sv] O w fun _=>QQ):Go.Pm.Way Tryz.prog false K A X (AtDone QQ Wg) O (born Tryz.prog (call99 Wg pc bx ic)) w:=by
 refine qc rfl (qnj Wg pc bx ic) ?_;simp only[body99,Tryz.f99,yv];refine wN ?_;refine wR ?_;refine qc rfl (fun _=>stepG_defer rfl rfl (by decide) rfl) ?_;walk_nrm;refine wN ?_;refine qcj mixed (L:=[[0,1,2,3,4,5],[0,2,1,3,4,5],[1,0,2,3,4,5],[1,2,0,3,4,5],[1,2,3,0,4,5],[1,2,3,4,0,5],[2,0,1,3,4,5],[2,1,0,3,4,5],[2,1,3,0,4,5],[2,1,3,4,0,5]]) (by kernel_rfl) hAd fun l hl=>?_;simp only[yF,yU,or_false] at hl;have hi0:(0:Int)<=(i:Int):=by omega
 have hin:(i:Int)<(n:Int):=by omega
 rcases hl with rfl|rfl|rfl|rfl|rfl|rfl|rfl|rfl|rfl|rfl;refine wCK pv ?_;walk_nrm;refine wCK (sT ab n cp) ?_;walk_nrm;refine wCK (J i) ?_;walk_nrm;refine wV (pT ab i) ?_;walk_nrm;refine wCK sv ?_;walk_nrm;rotate_left;refine wCK pv ?_;walk_nrm;refine wCK (J i) ?_;walk_nrm;refine wCK (sT ab n cp) ?_;walk_nrm;refine wV (pT ab i) ?_;walk_nrm;refine wCK sv ?_;walk_nrm;rotate_left;refine wCK (sT ab n cp) ?_;walk_nrm;refine wCK pv ?_;walk_nrm;refine wCK (J i) ?_;walk_nrm;refine wV (pT ab i) ?_;walk_nrm;refine wCK sv ?_;walk_nrm;rotate_left;refine wCK (sT ab n cp) ?_;walk_nrm;refine wCK (J i) ?_;walk_nrm;refine wCK pv ?_;walk_nrm;refine wV (pT ab i) ?_;walk_nrm;refine wCK sv ?_;walk_nrm;rotate_left;refine wCK (sT ab n cp) ?_;walk_nrm;refine wCK (J i) ?_;walk_nrm;refine wV (pT ab i) ?_;walk_nrm;refine wCK pv ?_;walk_nrm;refine wCK sv ?_;walk_nrm;rotate_left;refine wCK (sT ab n cp) ?_;walk_nrm;refine wCK (J i) ?_;walk_nrm;refine wV (pT ab i) ?_;walk_nrm;refine wCK sv ?_;walk_nrm;refine wCK pv ?_;walk_nrm;rotate_left;refine wCK (J i) ?_;walk_nrm;refine wCK pv ?_;walk_nrm;refine wCK (sT ab n cp) ?_;walk_nrm;refine wV (pT ab i) ?_;walk_nrm;refine wCK sv ?_;walk_nrm;rotate_left;refine wCK (J i) ?_;walk_nrm;refine wCK (sT ab n cp) ?_;walk_nrm;refine wCK pv ?_;walk_nrm;refine wV (pT ab i) ?_;walk_nrm;refine wCK sv ?_;walk_nrm;rotate_left;refine wCK (J i) ?_;walk_nrm;refine wCK (sT ab n cp) ?_;walk_nrm;refine wV (pT ab i) ?_;walk_nrm;refine wCK pv ?_;walk_nrm;refine wCK sv ?_;walk_nrm;rotate_left;refine wCK (J i) ?_;walk_nrm;refine wCK (sT ab n cp) ?_;walk_nrm;refine wV (pT ab i) ?_;walk_nrm;refine wCK sv ?_;walk_nrm;refine wCK pv ?_;walk_nrm;rotate_left;all_goals
  refine qe rfl rfl (by decide) rfl Tryz.func101 nm101 (by kernel_rfl) ?_;walk_nrm;refine hW _ _ _ fun v O' w' hq=>?_;rw[Frame.finish_at];walk_nrm;refine wN ?_;refine qc rfl (fun _=>stepG_end) ?_;exact .stop fun wB h₁=>⟨hQ _ _ _ h₁ hq,_,rfl⟩
end
end Go.Cr
