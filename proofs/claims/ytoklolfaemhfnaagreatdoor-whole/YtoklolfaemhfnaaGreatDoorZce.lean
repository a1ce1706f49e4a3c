/-
  Whole: at every setting and every script (Crash aside, which the law itself passes over) the law returns true: behind eight Rounds everything is still, and every process has told what every other has; the arguments read as they did. The run starts goroutines (a Round's workers): on every tape it returns, without a race, all of them joined. The card: the two listed tables of math/bits are tied to the program's text.
  Conditions: none but the form's own.
-/
import Derived.Test.YtoklolfaemhfnaaGreatDoorCards
import Derived.Test.YtoklolfaemhfnaaGreatDoorTie
import Derived.JoinedOf
import Derived.ProofKit
import Derived.LaidMore
import Derived.OpenShut
import Derived.Stop.Joined
import Derived.Lib.SmallJoins
import Derived.Lib.LaidTab
import Derived.Deep.Slices
import Derived.SevenTiedAt
import Derived.MakeChecks
import Derived.Stop.LaidErr
import Derived.Conc.Holds
import Derived.Leaving
import Derived.Test.YtoklolfaemhfnaaGreatDoorZcd
set_option maxRecDepth 100000
set_option maxHeartbeats 8000000
namespace Go.Proofs.YtoklolfaemhfnaaGreatDoor
section
open Go.RowKit
open Go.Cr Go.Conc
open Go.Pm (Rely Perm Sup Ext Ev)
variable {n i:Nat}{V:Value}{us:List Value}{L:List (Nat × Obj)}{O K:Nat->Prop}{A:World->Prop}{X:Event->Prop}{Stop:(Nat->Prop)->Goroutine->World->Prop}{wa:World}
theorem Told.kept{w w':World}{base:Nat}{st:Nat->Pst}{v:Value}{vs:List Value}(t:Told w base st v vs)(hb:∀k,k<w.heap.size->w'.heap[k]?=w.heap[k]?):Told w' base st v vs:=
 ⟨qd t.row fun g hg=>hb g (t.row.lt g hg).2,fun i u hu=>qd (t.each i u hu) fun g hg=>hb g ((t.each i u hu).lt g hg).2⟩
theorem Mt.form(h:Mt n i V us L O wa)(hn:1<=n):us.length=n/\∃VB cap,V=sT VB n cap/\O VB/\∀k u,us[k]?=some u->wa.cell? (aT VB k)=some u:=by
 obtain⟨π,w,base,st,pl,v,vs,h1,h2,h3,hl,ht,rfl,rfl, -⟩:=h;refine⟨by rw[yL];exact hl,?_⟩;rcases ht.row.2 with ⟨-,h0⟩|⟨g,cap,cur,h0,hge, -⟩
 ·omega
 ·have hob:v.ownBlock=some g:=by rw[h0];rfl
  have hlt:=ht.row.lt g hob;refine⟨π.f g,cap,by rw[h0,hl];simp[Addr.pm],h1.among g (show 7<=g by omega) hlt.2,fun k u hu=>?_⟩;rw[yZ] at hu;obtain⟨u0,hu0,rfl⟩:=yE.1 hu;have hc:=ht.row.cells hob k u0 hu0;rw[add0] at hc;exact(h1.cell (by omega) hc).1
theorem Mt.within(h:Mt n i V us L O wa)(hi:3<=i)(hK:∀b,b<2->K b){a b:Nat}(ha:a<n)(hb:b<n){ua ub:Value}(hua:us[a]?=some ua)(hub:us[b]?=some ub){c:Frame}{rest:List Frame}
 (hk:∀O' wa',Mt n i V us L O' wa'->Go.Pm.Way Tryz.prog true K A X Stop O' (G (c.finish (.bool true)) rest) wa') :
 Go.Pm.Way Tryz.prog true K A X Stop O (G (Frame.enter Tryz.prog 30 #[ua,ub,J 0] .normal) (c::rest)) wa:=by
 obtain⟨π,w,base,st,pl,v,vs,h1,h2,h3,hl,ht,rfl,rfl,hlv,hev⟩:=h;rw[yZ] at hua hub;obtain⟨va,hva,rfl⟩:=yE.1 hua;obtain⟨vb,hvb,rfl⟩:=yE.1 hub;have ra:=ht.each a va hva;have rb:=ht.each b vb hvb;have sup:∀{u:Value}{m:Nat}{xs:List Value},w.ownsRow base 64 6 u m xs->Sup fam w.heap.size u:=fun {u m xs} r σ hσ=>by
  rcases r.2 with ⟨h0, -⟩|⟨g,cap,cur,h0, -⟩
  ·rw[h0];simp
  ·have hlt:=r.lt g (by rw[h0];rfl);have:σ.f g=g:=hσ.1 g (show 7<=g by omega) hlt.2;rw[h0];simp[Addr.pm,this]
 refine qb2 hK h1 h2 (f:=30) rfl rfl (args:=#[va,vb,J 0]) (fun u hu=>?_) (by simp) (R:=fun e w'=>e=.returned (.bool true)/\(∀k,k<w.heap.size->w'.heap[k]?=w.heap[k]?)) (fun τ _=>?_) (fun e w' h=>⟨_,h.1⟩) fun v' w' π' wa' O' hR hg hL _ hsame _=>?_
 ·simp only[yag,yF,yU,or_false] at hu;rcases hu with rfl|rfl|rfl
  ·exact sup ra
  ·exact sup rb
  ·exact qco (by simp)
 ·obtain⟨ao,ac,hfa⟩:=qp ra;obtain⟨bo,bc,hfb⟩:=qp rb;have ra':(w.tp τ).ownsRow base 64 6 (.slice ao (st a).evs.length ac) (st a).evs.length (evCells (st a).evs):=hfa▸ra;have rb':(w.tp τ).ownsRow base 64 6 (.slice bo (st b).evs.length bc) (st b).evs.length (evCells (st b).evs):=hfb▸rb;rw[hfa,hfb];refine(qnw ao bo ac bc (st a).evs (st b).evs (w.tp τ) ra' rb' (hev a ha) (hev b hb) (hlv.within hi ha hb)).mono ?_;rintro e w' ⟨rfl,hbl⟩;exact⟨rfl,fun k hk=>hbl.block k hk⟩
 ·obtain⟨e,hbk⟩:=hR;injection e with e;subst e;have pmsame:∀{u:Value}{m sz:Nat}{ty:TypeId}{xs:List Value},w.ownsRow base ty sz u m xs->u.pm π'=u.pm π:=fun {u m sz ty xs} r=>by
   rcases r.2 with ⟨h0, -⟩|⟨g,cap,cur,h0, -⟩
   ·rw[h0];simp
   ·have hlt:=r.lt g (by rw[h0];rfl);rw[h0];simp[Addr.pm,hsame g hlt.2]
  have hM:Mt n i (v.pm π) (vs.map (Value.pm π)) L O' wa':=by
   refine⟨π',w',base,st,pl,v,vs,hg,hL,h3,hl,ht.kept hbk,pmsame ht.row,ya1 fun u hu=>?_,hlv,hev⟩;obtain⟨k,hk1⟩:=yaP.1 hu;exact pmsame (ht.each k u hk1)
  simpa using hk O' wa' hM
end
section
open Go.RowKit
open Go.Cr Go.Conc
open Go.Pm (Rely Perm Sup Ext Ev)
variable {n win:Nat}{L:List (Nat × Obj)}{O K:Nat->Prop}{A:World->Prop}{X:Event->Prop}{Stop:(Nat->Prop)->Goroutine->World->Prop}{wa waB:World}
def M0(L:List (Nat × Obj))(O:Nat->Prop)(wa:World):Prop:=∃(π:Perm) (w:World),Gh π w wa O/\Sides L O π w.heap.size wa
theorem M0.rely(h:M0 L O wa)(hK:∀b,b<2->K b)(hr:Rely O K A wa waB):M0 L O waB:=by
 obtain⟨π,w,h1,h2⟩:=h;exact⟨π,w,h1.rely hK hr,h2.rely hr⟩
theorem M0.of(ht:Tabs wa)(h10:7<=wa.heap.size)(hL:∀x∈L,O x.1/\wa.heap[x.1]?=some x.2):M0 L O wa:=by
 have c:Cl wa (fun _=>False):=⟨ht,h10,fun x hx=>hx.elim⟩;obtain⟨w,π,hl,hs,hT, -,hto, -⟩:=c.small;exact⟨π,w,⟨hl,hs,hT,ht,fun r h1 h2=>(hto r h1 h2).elim⟩,fun x hx=>⟨(hL x hx).1,(hL x hx).2,fun r h1 h2=>(hto r h1 h2).elim⟩⟩
theorem M0.roomy(h:M0 L O wa)(hK:∀b,b<2->K b)(a b c:Int)(ha:I64 a)(hb:I64 b)(hc:I64 c){cf:Frame}{rest:List Frame}
 (hk:∀O' wa',M0 L O' wa'->Go.Pm.Way Tryz.prog true K A X Stop O' (G (cf.finish (.agg #[J ((1+pickN a 6:Nat):Int),J ((1+pickN b 8:Nat):Int),J 4000])) rest) wa') :
 Go.Pm.Way Tryz.prog true K A X Stop O (G (Frame.enter Tryz.prog 26 #[.agg #[J a,J b,J c]] .normal) (cf::rest)) wa:=by
 obtain⟨π,w,h1,h2⟩:=h;refine qb2 hK h1 h2 (f:=26) rfl rfl (args:=#[.agg #[J a,J b,J c]]) (fun u hu=>?_) (by simp) (R:=fun e _=>e=.returned (.agg #[J ((1+pickN a 6:Nat):Int),J ((1+pickN b 8:Nat):Int),J 4000])) (fun τ _=>(qpi a b c (w.tp τ) ha hb hc).mono fun e w' h=>h.1) (fun e w' h=>⟨_,h⟩) fun v w' π' wa' O' hR hg hL _ _ _=>?_
 ·simp only[yag,yF,yU,or_false] at hu;subst hu;exact qco (by simp)
 ·injection hR with e;subst e;simpa using hk O' wa' ⟨π',w',hg,hL⟩
theorem M0.player(h:M0 L O wa)(hK:∀b,b<2->K b)(hn:1<=n/\n<=6)(hw:1<=win/\win<=8){cf:Frame}{rest:List Frame}
 (hk:∀P0 G0 O' wa',Ms n win P0 G0 (Jn n) L O' wa'->Go.Pm.Way Tryz.prog true K A X Stop O' (G (cf.finish (pT P0 0)) rest) wa') :
 Go.Pm.Way Tryz.prog true K A X Stop O (G (Frame.enter Tryz.prog 25 #[.agg #[J n,J win,J 4000],.bool true] .normal) (cf::rest)) wa:=by
 obtain⟨π,w,h1,h2⟩:=h;refine qb2 hK h1 h2 (f:=25) rfl rfl (args:=#[.agg #[J n,J win,J 4000],.bool true]) (fun u hu=>?_) (by simp) (R:=fun e w'=>∃pp gb,e=.returned (pT pp 0)/\PlAt w' pp gb n win/\w.heap.size<=pp/\GX w' (fun x=>w.heap.size<=x/\x<pp) gb n win 4000 (st0 n win) (pl0 n win)) (fun τ _=>(qn0 (w.tp τ) h1.tab h1.loose.low hn hw).mono ?_) (fun e w' h=>?_) fun v w' π' wa' O' hR hg hL _ _ _=>?_
 ·simp only[yag,yF,yU,or_false] at hu;rcases hu with rfl|rfl <;> exact qco (by simp)
 ·rintro e w' ⟨pp,gb,rfl, -,h3,h4,h5⟩;exact⟨pp,gb,rfl,h3,h4,h5⟩
 ·obtain⟨pp,gb,h, -⟩:=h;exact⟨_,h⟩
 ·obtain⟨pp,gb,e,h3,h4,h5⟩:=hR;injection e with e;subst e;have:=hk (π'.f pp) (π'.f gb) O' wa' ⟨π',w',pp,gb,_,_,_,hg,hL,rfl,rfl,by have:=h1.loose.low;have h10:7<=w.heap.size:=this;omega,h3,fun h=>by omega,h5,Jn.start hn⟩;simpa[Addr.pm] using this
end
end Go.Proofs.YtoklolfaemhfnaaGreatDoor
namespace Go.Cr
section
open Go Go.Conc
open Go.Pm (Rely Guar Ev grow)
def KI(K0:Nat->Prop)(H0:Nat->Option Obj)(O K:Nat->Prop)(w:World):Prop:=∀b,K0 b->K b/\¬O b/\b<w.heap.size/\w.heap[b]?=H0 b
section
variable {K0:Nat->Prop}{H0:Nat->Option Obj}{O K:Nat->Prop}{A:World->Prop}{X:Event->Prop}{w wB w':World}{es:Array Event}{e0:Os × Array (Nat × ByteArray)}
theorem KI.rely(h:KI K0 H0 O K w)(hr:Rely O K A w wB):KI K0 H0 O K wB:=fun b hb=>⟨(h b hb).1,(h b hb).2.1,yg (h b hb).2.2.1 hr.size,(hr.own b (.inr (h b hb).1)).trans (h b hb).2.2.2⟩
theorem KI.guar(h:KI K0 H0 O K wB)(hg:Guar O K X wB w' es):KI K0 H0 (grow O wB w') K w':=fun b hb=>⟨(h b hb).1,fun e=>e.elim (h b hb).2.1 fun e=>by have:=(h b hb).2.2.1;omega,yg (h b hb).2.2.1 hg.size,(hg.frame b (h b hb).2.2.1 (h b hb).2.1).trans (h b hb).2.2.2⟩
theorem KI.cell(h:KI K0 H0 O K w){a:Addr}(ha:¬K0 a.block)(v:Value):KI K0 H0 O K (w.setCell a v):=fun b hb=>⟨(h b hb).1,(h b hb).2.1,by have:=(h b hb).2.2.1;simpa using this,((aside_setCell w a v).block b (fun e=>ha (e▸hb))).trans (h b hb).2.2.2⟩
end
theorem qn7{g g' c c':Goroutine}{w w':World}{es es':Array Event}(h:GStep.spawn g c w es=GStep.spawn g' c' w' es'):g=g'/\c=c'/\w=w'/\es=es':=by
 injection h with a b c d;exact⟨a,b,c,d⟩
theorem Main.kept{P:Program}{ty:TypeId}{Post:Value->World->Prop}{Wg:Nat}{Qs:List Fact}{tag:Tag}{O K:Nat->Prop}{g:Goroutine}{w:World}(h:Main P ty Post Wg Qs tag O K g w){K0:Nat->Prop}{H0:Nat->Option Obj}{e0:Os × Array (Nat × ByteArray)} :
 KI K0 H0 O K w->(tag≠.free->¬K0 Wg)->w.eo=e0->Main P ty (fun v w'=>Post v w'/\w'.eo=e0/\∀b,K0 b->w'.heap[b]?=H0 b) Wg Qs tag O K g w:=by
 induction h with
 | idle hrun hgo _ ih =>
   intro hk ht he0;refine .idle hrun hgo fun wB g' w' es h₁ he=>?_;obtain⟨g'',w'',es',e1,e2⟩:=hgo wB h₁;obtain⟨rfl,rfl,rfl⟩:=qj (e1.symm.trans he);exact ih wB _ _ _ h₁ he ((hk.rely h₁).guar e2) ht (e2.os.trans (h₁.os.trans he0))
 | fin hrun hgo =>
   intro hk ht he0;refine .fin hrun fun wB h₁=>?_;obtain⟨v,es,e1,e2,e3⟩:=hgo wB h₁;exact⟨v,es,e1,e2,e3,h₁.os.trans he0,fun b hb=>(hk.rely h₁ b hb).2.2.2⟩
 | enter hO' hW _ ih =>
   intro hk ht he0;exact .enter hO' hW (ih (fun b hb=>⟨(hk b hb).1,fun h=>(hk b hb).2.1 h.1,(hk b hb).2.2⟩) (fun _ hb=>(hk _ hb).2.1 hO') he0)
 | kd hrun hgo _ ih =>
   intro hk ht he0;refine .kd hrun hgo fun wB g' w' es h₁ he=>?_;obtain⟨g'',e1⟩:=hgo wB h₁;obtain⟨rfl,rfl,rfl⟩:=qj (e1.symm.trans he);exact ih wB _ _ _ h₁ he (hk.rely h₁) (fun _=>ht (by simp)) (h₁.os.trans he0)
 | add hrun hlen hgo _ ih =>
   intro hk ht he0;refine .add hrun hlen hgo fun wB g' w' es v h₁ hv hw he=>?_;obtain⟨g'',e1⟩:=hgo wB h₁ v hv hw;obtain⟨rfl,rfl,rfl⟩:=qj (e1.symm.trans he);exact ih wB _ _ _ v h₁ hv hw he ((hk.rely h₁).cell (ht (by simp)) _) (fun _=>ht (by simp)) (h₁.os.trans he0)
 | en hrun hgo _ ih =>
   intro hk ht he0;refine .en hrun hgo fun wB g' w' es h₁ he=>?_;obtain⟨g'',e1⟩:=hgo wB h₁;obtain⟨rfl,rfl,rfl⟩:=qj (e1.symm.trans he);exact ih wB _ _ _ h₁ he (hk.rely h₁) (fun _=>ht (by simp)) (h₁.os.trans he0)
 | go Q Bs R hrun hlen hB hR hBR hgo hc _ ih =>
   intro hk ht he0;refine .go Q Bs R hrun hlen hB hR hBR hgo hc fun wB g' child w' es h₁ he=>?_;obtain⟨g'',child',e1⟩:=hgo wB h₁;obtain⟨rfl,rfl,rfl,rfl⟩:=qn7 (e1.symm.trans he);exact ih wB _ _ _ _ h₁ he (fun b hb=>⟨.inl (hk.rely h₁ b hb).1,fun h=>(hk.rely h₁ b hb).2.1 h.1,(hk.rely h₁ b hb).2.2⟩) (fun _=>ht (by simp)) (h₁.os.trans he0)
 | wd hrun hgo _ ih =>
   intro hk ht he0;refine .wd hrun hgo fun wB g' w' es h₁ he=>?_;obtain⟨g'',e1⟩:=hgo wB h₁;obtain⟨rfl,rfl,rfl⟩:=qj (e1.symm.trans he);exact ih wB _ _ _ h₁ he (hk.rely h₁) (fun _=>ht (by simp)) (h₁.os.trans he0)
 | ld hrun hgo _ _ ih0 ih1 =>
   intro hk ht he0;refine .ld hrun hgo (fun wB g' w' es h₁ hw he=>?_) fun wB g' w' es v h₁ h1 h2 hw he=>?_
   ·obtain⟨g'',e1⟩:=hgo wB h₁ 0 (yaA _) hw;obtain⟨rfl,rfl,rfl⟩:=qj (e1.symm.trans he);exact ih0 wB _ _ _ h₁ hw he (hk.rely h₁) (fun _=>ht (by simp)) (h₁.os.trans he0)
   ·obtain⟨g'',e1⟩:=hgo wB h₁ v h2 hw;obtain⟨rfl,rfl,rfl⟩:=qj (e1.symm.trans he);exact ih1 wB _ _ _ v h₁ h1 h2 hw he (hk.rely h₁) (fun _=>ht (by simp)) (h₁.os.trans he0)
 | cas hrun hhit hmiss _ _ ih3 iha =>
   intro hk ht he0;refine .cas hrun hhit hmiss (fun wB g' w' es h₁ hw he=>?_) fun wB g' w' es v h₁ hv hw he=>?_
   ·obtain⟨g'',e1⟩:=hhit wB h₁ hw;obtain⟨rfl,rfl,rfl⟩:=qj (e1.symm.trans he);exact ih3 wB _ _ _ h₁ hw he ((hk.rely h₁).cell (ht (by simp)) _) (fun _=>ht (by simp)) (h₁.os.trans he0)
   ·obtain⟨g'',e1⟩:=hmiss wB h₁ v hv hw;obtain⟨rfl,rfl,rfl⟩:=qj (e1.symm.trans he);exact iha wB _ _ _ v h₁ hv hw he (hk.rely h₁) (fun _=>ht (by simp)) (h₁.os.trans he0)
 | sem hrun hoff hblk hgo _ ih =>
   intro hk ht he0;refine .sem hrun hoff hblk hgo fun wB g' w' es h₁ hw he=>?_;obtain⟨g'',e1⟩:=hgo wB h₁ hw;obtain⟨rfl,rfl,rfl⟩:=qj (e1.symm.trans he);exact ih wB _ _ _ h₁ hw he ((hk.rely h₁).cell (ht (by simp)) _) (fun _=>ht (by simp)) (h₁.os.trans he0)
 | l4 hrun hgo _ ih =>
   intro hk ht he0;refine .l4 hrun hgo fun wB g' w' es h₁ hw he=>?_;obtain⟨g'',e1⟩:=hgo wB h₁ hw;obtain⟨rfl,rfl,rfl⟩:=qj (e1.symm.trans he);exact ih wB _ _ _ h₁ hw he (hk.rely h₁) (fun _=>ht (by simp)) (h₁.os.trans he0)
 | ke hrun hgo _ ih =>
   intro hk ht he0;refine .ke hrun hgo fun wB g' w' es h₁ he=>?_;obtain⟨g'',e1⟩:=hgo wB h₁;obtain⟨rfl,rfl,rfl⟩:=qj (e1.symm.trans he);exact ih wB _ _ _ h₁ he (hk.rely h₁) (fun _=>ht (by simp)) (h₁.os.trans he0)
 | aq hrun hgo _ ih =>
   intro hk ht he0;refine .aq hrun hgo fun wB g' w' es Os h₁ hq hd hdd he=>?_;obtain⟨g'',e1⟩:=hgo wB h₁;obtain⟨rfl,rfl,rfl⟩:=qj (e1.symm.trans he);exact ih wB _ _ _ Os h₁ hq hd hdd he (fun b hb=>⟨(hk.rely h₁ b hb).1,fun h=>h.elim (hk.rely h₁ b hb).2.1 fun ⟨i,hi,ho⟩=>(hd i hi b ho).2.1 (hk.rely h₁ b hb).1,(hk.rely h₁ b hb).2.2⟩) (fun e=>absurd rfl e) (h₁.os.trans he0)
end
end Go.Cr
namespace Go.Proofs.YtoklolfaemhfnaaGreatDoor
section
open Go.RowKit
open Go.Cr Go.Conc
open Go.Pm (Rely Perm Sup Ext Ev)
def Kt(Post:Value->World->Prop)(Wg:Nat):(Nat->Prop)->Goroutine->World->Prop:=fun O g w=>Own O (fun b=>b<2) w->Main Tryz.prog 148 Post Wg [] .free O (fun b=>b<2) g w
variable {n win P0 G0 Wg:Nat}{L:List (Nat × Obj)}{O:Nat->Prop}{wa:World}{Post:Value->World->Prop}{g:Goroutine}
theorem qbj(hown:Own O (fun b=>b<2) wa)(h:Go.Pm.Way Tryz.prog true (fun b=>b<2) (Al 148 Wg .free) (XS Wg .free) (Kt Post Wg) O g wa):Main Tryz.prog 148 Post Wg [] .free O (fun b=>b<2) g wa:=by
 refine Main.of_way (qff h hown) fun OW gC wC hS=>?_;obtain⟨h1,h2⟩:=hS wC (.refl _ _ _ _);exact h1 h2
theorem qpp(hn:1<=n/\n<=6)(h:Ms n win P0 G0 (Jn n) L O wa)(hown:Own O (fun b=>b<2) wa)(kd a b c:Int)(t:ByteArray)(ha:I64 a)(hb:I64 b)(hc:I64 c)(hk4:kd≠4){cf:Frame}{rest:List Frame}
 (kont:∀Wg O' wa',Own O' (fun b=>b<2) wa'->Ms n win P0 G0 (Jn n) L O' wa'->Main Tryz.prog 148 Post Wg [] .free O' (fun b=>b<2) (G (cf.finish (.bool true)) rest) wa') :
 Main Tryz.prog 148 Post Wg [] .free O (fun b=>b<2) (G (Frame.enter Tryz.prog 27 #[pT P0 0,.agg #[J kd,J a,J b,J c,.string t]] .normal) (cf::rest)) wa:=by
 by_cases h10:kd=10
 ·subst h10;exact qn6 hn (fun b hb=>hb) h hown a b c t ha kont
 ·exact qbj hown (qqz hn (fun w d h=>h) (fun b hb=>hb) h kd a b c t ha hb hc hk4 h10 fun O' wa' h'=>.stop fun wB h₁ hown'=>kont Wg O' wB hown' (h'.rely (fun b hb=>hb) h₁))
def nv:List Bool->Code->Code
 |[],c=>c
 |false::p,.seq a _=>nv p a
 |true::p,.seq _ b=>nv p b
 |false::p,.block _ c=>nv p c
 |false::p,.loop c=>nv p c
 |_,_=>.skip
noncomputable def bd10 (p:List Bool):Code:=nv p (Tryz.f10.body.getD .skip)
end
section
open Go.RowKit
open Go.Cr Go.Conc
open Go.Pm (Rely Perm Sup Ext Ev)
noncomputable def lp6:Code:=bd10 [true,true,true,true,true,true,true,true,false,true,false,false,true,false,false,true,false,false]
noncomputable def lp4:Code:=bd10 [true,true,true,true,true,true,true,true,false,true,false,false]
variable {n i:Nat}{us:List Value}{L:List (Nat × Obj)}{O K:Nat->Prop}{A:World->Prop}{X:Event->Prop}{Stop:(Nat->Prop)->Goroutine->World->Prop}{wa:World}{VB vcap:Nat}
theorem Mt.at(h:Mt n i (sT VB n vcap) us L O wa)(hn:1<=n):us.length=n/\O VB/\∀k u,us[k]?=some u->wa.cell? (aT VB k)=some u:=by
 obtain⟨h1,VB',cap',e,h2,h3⟩:=h.form hn;simp only[Value.slice.injEq,yA,Addr.mk.injEq] at e;obtain⟨⟨rfl, -⟩, -⟩:=e;exact⟨h1,h2,h3⟩
def vals25(VB n vcap a b:Nat)(ua ub:Value):Nat->Value
 |0=>sT VB n vcap
 |1=>J a
 |2=>pT VB a
 |3=>pT VB a
 |4=>ua
 |5=>sT VB n vcap
 |6=>J b
 |7=>pT VB b
 |8=>pT VB b
 |_=>ub
theorem loop6(hn:1<=n/\n<=6)(hi:3<=i)(hA:∀w d,A w->A (w.at d))(hK:∀b,b<2->K b){a:Nat}(ha:a<n){k:List Item}
 (hk:∀O' wa' (v0 v1 v2 v3 v4 v5 v6 v7 v8 v9 vB vD vE vF vG vH vI vJ vK vL vM vN vO vP vQ vR vS vT vU vV vW vX vY vZ rA rB rC rD rE rF rG rH rI rJ rK rL rM rN rO rP rQ rR rS rT rU rV rW rX rY rZ xA xB xC xD xE xF xG xH xI xJ xK xL xM xN xO xP xQ xR xS xT xU xV xW xX xY:Value),Mt n i (sT VB n vcap) us L O' wa'->Go.Pm.Way Tryz.prog true K A X Stop O' (G ((base 10).at ⟨(v0::v1::v2::v3::v4::v5::v6::v7::v8::v9::sT VB n vcap::vB::J ((a:Nat):Int)::vD::vE::vF::vG::vH::vI::vJ::vK::vL::vM::vN::vO::vP::vQ::vR::vS::vT::vU::vV::vW::vX::vY::vZ::rA::rB::rC::rD::rE::rF::rG::rH::rI::rJ::rK::rL::rM::rN::rO::rP::rQ::rR::rS::rT::rU::rV::rW::rX::rY::rZ::xA::xB::xC::xD::xE::xF::xG::xH::xI::xJ::xK::xL::xM::xN::xO::xP::xQ::xR::xS::xT::xU::xV::xW::xX::xY::[]).toArray,[]⟩ k) []) wa') :
 ∀ (r b : Nat), b + r = n -> ∀ (O : Nat -> Prop) (wa : World) (v0 v1 v2 v3 v4 v5 v6 v7 v8 v9 vB vE vF vG vH vI vJ vK vL vM vN vO vP vQ vR vS vT vU vV vW vX vY vZ rA rB rC rD rE rF rG rH rI rJ rK rL rM rN rO rP rQ rR rS rT rU rV rW rX rY rZ xA xB xC xD xE xF xG xH xI xJ xK xL xM xN xO xP xQ xR xS xT xU xV xW xX xY : Value), Mt n i (sT VB n vcap) us L O wa ->
   Go.Pm.Way Tryz.prog true K A X Stop O (G ((base 10).at ⟨(v0::v1::v2::v3::v4::v5::v6::v7::v8::v9::sT VB n vcap::vB::J ((a:Nat):Int)::J ((b:Nat):Int)::vE::vF::vG::vH::vI::vJ::vK::vL::vM::vN::vO::vP::vQ::vR::vS::vT::vU::vV::vW::vX::vY::vZ::rA::rB::rC::rD::rE::rF::rG::rH::rI::rJ::rK::rL::rM::rN::rO::rP::rQ::rR::rS::rT::rU::rV::rW::rX::rY::rZ::xA::xB::xC::xD::xE::xF::xG::xH::xI::xJ::xK::xL::xM::xN::xO::xP::xQ::xR::xS::xT::xU::xV::xW::xX::xY::[]).toArray,[]⟩ (.code lp6::.inLoop lp6::.inBlock 6::k)) []) wa:=by
 intro r;induction r with
 | zero =>
   intro b hbn O wa;intros
   rename_i hI
   have hlt:¬(b:Int)<(n:Int):=by omega
   obtain⟨LP,hLP⟩:∃LP,LP=lp6:=⟨_,rfl⟩;rw[<-hLP];rw[show Item.code LP=.code lp6 by rw[hLP]];simp only[lp6,bd10,nv,Tryz.f10,yv];repeat refine wN ?_
   refine wR ?_;refine wV (J b) ?_;walk_nrm;refine wV (sT VB n vcap) ?_;walk_nrm;refine wV (J n) ?_;walk_nrm;refine wV (.bool false) ?_;walk_nrm;repeat refine wN ?_
   refine wF ?_;refine qc rfl (fun _=>stepG_exit rfl) ?_;apply hk;exact hI
 | succ r ih =>
   intro b hbn O wa;intros
   rename_i hI
   have hb:b<n:=by omega
   have hlt:(b:Int)<(n:Int):=by omega
   have hlta:(a:Int)<(n:Int):=by omega
   have hb0:(0:Int)<=(b:Int):=by omega
   have ha0:(0:Int)<=(a:Int):=by omega
   have hadd:IntKind.i64.wrap ((b:Int)+1)=((b+1:Nat):Int):=by rw[yat];omega
   obtain⟨hlen, -, -⟩:=hI.at hn.1;obtain⟨ua,hua⟩:∃ua,us[a]?=some ua:=⟨us[a],yh (by omega)⟩;obtain⟨ub,hub⟩:∃ub,us[b]?=some ub:=⟨us[b],yh (by omega)⟩;obtain⟨LP,hLP⟩:∃LP,LP=lp6:=⟨_,rfl⟩;rw[<-hLP];rw[<-hLP] at ih;rw[show Item.code LP=.code lp6 by rw[hLP]];simp only[lp6,bd10,nv,Tryz.f10,yv];repeat refine wN ?_
   refine wR ?_;refine wV (J b) ?_;walk_nrm;refine wV (sT VB n vcap) ?_;walk_nrm;refine wV (J n) ?_;walk_nrm;refine wV (.bool true) ?_;walk_nrm;repeat refine wN ?_
   refine wT ?_;repeat refine wN ?_
   refine qcj mixed rfl hA ?_;refine qew (m:=10) (vals:=vals25 VB n vcap a b ua ub) (I:=fun O w=>Mt n i (sT VB n vcap) us L O w) (by kernel_rfl) ?_ ?_ O wa hI
   ·intro j hj a' rest' O' w' hd ho hI hgo;obtain⟨-,sO, -⟩:=hI.at hn.1;match j,hj with
    | 0, _ =>
      have e0:a'.tmps[10]?=some (sT VB n vcap):=(ho 10 (by decide)).trans (by simp);exact qb (v:=sT VB n vcap) rfl rfl (by decide) (fun wB h₁=>⟨by simp[go_sem,Array.getD_eq_getD_getElem?,e0],by simp[go_sem,Array.getD_eq_getD_getElem?,e0]⟩) (hgo O' w' hI)
    | 1, _ =>
      have e0:a'.tmps[12]?=some (J a):=(ho 12 (by decide)).trans (by simp);exact qb (v:=J a) rfl rfl (by decide) (fun wB h₁=>⟨by simp[go_sem,Array.getD_eq_getD_getElem?,e0],by simp[go_sem,Array.getD_eq_getD_getElem?,e0]⟩) (hgo O' w' hI)
    | 2, _ =>
      have e0:a'.tmps[74]?=some (sT VB n vcap):=hd 0 (by decide) 74 rfl;have e1:a'.tmps[75]?=some (J a):=hd 1 (by decide) 75 rfl;exact qb (v:=pT VB a) rfl rfl (by decide) (fun wB h₁=>⟨by simp[go_sem,Array.getD_eq_getD_getElem?, *],by simp[go_sem,Array.getD_eq_getD_getElem?, *]⟩) (hgo O' w' hI)
    | 3, _ =>
      have e0:a'.tmps[76]?=some (pT VB a):=hd 2 (by decide) 76 rfl;exact qb (v:=pT VB a) rfl rfl (by decide) (fun wB h₁=>⟨by simp[go_sem,Array.getD_eq_getD_getElem?,e0],by simp[go_sem,Array.getD_eq_getD_getElem?,e0]⟩) (hgo O' w' hI)
    | 4, _ =>
      have e0:a'.tmps[77]?=some (pT VB a):=hd 3 (by decide) 77 rfl;refine qb (v:=ua) rfl rfl (by decide) (fun wB h₁=>?_) (hgo O' w' hI);have c1:=((hI.rely hK h₁).at hn.1).2.2 a ua hua;exact⟨by simp[go_sem,Array.getD_eq_getD_getElem?,e0,c1],by simp[go_sem,Array.getD_eq_getD_getElem?,e0,c1];exact .inl sO⟩
    | 5, _ =>
      have e0:a'.tmps[10]?=some (sT VB n vcap):=(ho 10 (by decide)).trans (by simp);exact qb (v:=sT VB n vcap) rfl rfl (by decide) (fun wB h₁=>⟨by simp[go_sem,Array.getD_eq_getD_getElem?,e0],by simp[go_sem,Array.getD_eq_getD_getElem?,e0]⟩) (hgo O' w' hI)
    | 6, _ =>
      have e0:a'.tmps[13]?=some (J b):=(ho 13 (by decide)).trans (by simp);exact qb (v:=J b) rfl rfl (by decide) (fun wB h₁=>⟨by simp[go_sem,Array.getD_eq_getD_getElem?,e0],by simp[go_sem,Array.getD_eq_getD_getElem?,e0]⟩) (hgo O' w' hI)
    | 7, _ =>
      have e0:a'.tmps[79]?=some (sT VB n vcap):=hd 5 (by decide) 79 rfl;have e1:a'.tmps[80]?=some (J b):=hd 6 (by decide) 80 rfl;exact qb (v:=pT VB b) rfl rfl (by decide) (fun wB h₁=>⟨by simp[go_sem,Array.getD_eq_getD_getElem?, *],by simp[go_sem,Array.getD_eq_getD_getElem?, *]⟩) (hgo O' w' hI)
    | 8, _ =>
      have e0:a'.tmps[81]?=some (pT VB b):=hd 7 (by decide) 81 rfl;exact qb (v:=pT VB b) rfl rfl (by decide) (fun wB h₁=>⟨by simp[go_sem,Array.getD_eq_getD_getElem?,e0],by simp[go_sem,Array.getD_eq_getD_getElem?,e0]⟩) (hgo O' w' hI)
    | 9, _ =>
      have e0:a'.tmps[82]?=some (pT VB b):=hd 8 (by decide) 82 rfl;refine qb (v:=ub) rfl rfl (by decide) (fun wB h₁=>?_) (hgo O' w' hI);have c1:=((hI.rely hK h₁).at hn.1).2.2 b ub hub;exact⟨by simp[go_sem,Array.getD_eq_getD_getElem?,e0,c1],by simp[go_sem,Array.getD_eq_getD_getElem?,e0,c1];exact .inl sO⟩
   ·intro O' w' hI l hl;have hl':=qdg (L':=[[10,11]]) hl (by kernel_rfl);rw[yu] at hl';subst hl';simp only[finA,List.range,List.range.loop,List.foldl,dstOf,vals25];walk_nrm;refine qe rfl rfl (by decide) rfl (fn:=Tryz.f30) rfl (by kernel_rfl) rfl ?_;walk_nrm;refine Mt.within hI hi hK ha hb hua hub fun O4 w4 hI4=>?_;rw[yG];walk_nrm;refine wV (.bool true) ?_;walk_nrm;repeat refine wN ?_
    refine wR ?_;refine wV (.bool true) ?_;walk_nrm;refine wV (.bool false) ?_;walk_nrm;repeat refine wN ?_
    refine wF ?_;repeat refine wN ?_
    refine wR ?_;refine wV (J b) ?_;iterate 2 (walk_nrm;refine wV (J ((b+1:Nat):Int)) ?_)
    walk_nrm;repeat refine wN ?_
    refine qc rfl (fun _=>stepG_inLoop) ?_;apply ih (b+1) (by omega) O4 w4;exact hI4
end
section
open Go.RowKit
open Go.Cr Go.Conc
open Go.Pm (Rely Perm Sup Ext Ev)
variable {n i:Nat}{us:List Value}{L:List (Nat × Obj)}{O K:Nat->Prop}{A:World->Prop}{X:Event->Prop}{Stop:(Nat->Prop)->Goroutine->World->Prop}{wa:World}{VB vcap:Nat}
theorem loop4(hn:1<=n/\n<=6)(hi:3<=i)(hA:∀w d,A w->A (w.at d))(hK:∀b,b<2->K b){k:List Item}
 (hk:∀O' wa' (v0 v1 v2 v3 v4 v5 v6 v7 v8 v9 vA vB vC vD vE vF vG vH vI vJ vK vL vM vN vO vP vQ vR vS vT vU vV vW vX vY vZ rA rB rC rD rE rF rG rH rI rJ rK rL rM rN rO rP rQ rR rS rT rU rV rW rX rY rZ xA xB xC xD xE xF xG xH xI xJ xK xL xM xN xO xP xQ xR xS xT xU xV xW xX xY:Value),Mt n i (sT VB n vcap) us L O' wa'->Go.Pm.Way Tryz.prog true K A X Stop O' (G ((base 10).at ⟨(v0::v1::v2::v3::v4::v5::v6::v7::v8::v9::vA::vB::vC::vD::vE::vF::vG::vH::vI::vJ::vK::vL::vM::vN::vO::vP::vQ::vR::vS::vT::vU::vV::vW::vX::vY::vZ::rA::rB::rC::rD::rE::rF::rG::rH::rI::rJ::rK::rL::rM::rN::rO::rP::rQ::rR::rS::rT::rU::rV::rW::rX::rY::rZ::xA::xB::xC::xD::xE::xF::xG::xH::xI::xJ::xK::xL::xM::xN::xO::xP::xQ::xR::xS::xT::xU::xV::xW::xX::xY::[]).toArray,[]⟩ k) []) wa') :
 ∀ (r a : Nat), a + r = n -> ∀ (O : Nat -> Prop) (wa : World) (v0 v1 v2 v3 v4 v5 v6 v7 v8 v9 vB vD vE vF vG vH vI vJ vK vL vM vN vO vP vQ vR vS vT vU vV vW vX vY vZ rA rB rC rD rE rF rG rH rI rJ rK rL rM rN rO rP rQ rR rS rT rU rV rW rX rY rZ xA xB xC xD xE xF xG xH xI xJ xK xL xM xN xO xP xQ xR xS xT xU xV xW xX xY : Value), Mt n i (sT VB n vcap) us L O wa ->
   Go.Pm.Way Tryz.prog true K A X Stop O (G ((base 10).at ⟨(v0::v1::v2::v3::v4::v5::v6::v7::v8::v9::sT VB n vcap::vB::J ((a:Nat):Int)::vD::vE::vF::vG::vH::vI::vJ::vK::vL::vM::vN::vO::vP::vQ::vR::vS::vT::vU::vV::vW::vX::vY::vZ::rA::rB::rC::rD::rE::rF::rG::rH::rI::rJ::rK::rL::rM::rN::rO::rP::rQ::rR::rS::rT::rU::rV::rW::rX::rY::rZ::xA::xB::xC::xD::xE::xF::xG::xH::xI::xJ::xK::xL::xM::xN::xO::xP::xQ::xR::xS::xT::xU::xV::xW::xX::xY::[]).toArray,[]⟩ (.code lp4::.inLoop lp4::.inBlock 4::k)) []) wa:=by
 intro r;induction r with
 | zero =>
   intro a han O wa;intros
   rename_i hI
   have hlt:¬(a:Int)<(n:Int):=by omega
   obtain⟨LP,hLP⟩:∃LP,LP=lp4:=⟨_,rfl⟩;rw[<-hLP];rw[show Item.code LP=.code lp4 by rw[hLP]];simp only[lp4,bd10,nv,Tryz.f10,yv];repeat refine wN ?_
   refine wR ?_;refine wV (J a) ?_;walk_nrm;refine wV (sT VB n vcap) ?_;walk_nrm;refine wV (J n) ?_;walk_nrm;refine wV (.bool false) ?_;walk_nrm;repeat refine wN ?_
   refine wF ?_;refine qc rfl (fun _=>stepG_exit rfl) ?_;apply hk;exact hI
 | succ r ih =>
   intro a han O wa;intros
   rename_i hI
   have ha:a<n:=by omega
   have hlt:(a:Int)<(n:Int):=by omega
   have ha0:(0:Int)<=(a:Int):=by omega
   have hadd:IntKind.i64.wrap ((a:Int)+1)=((a+1:Nat):Int):=by rw[yat];omega
   obtain⟨L6,hL6⟩:∃L6,L6=lp6:=⟨_,rfl⟩;obtain⟨LP,hLP⟩:∃LP,LP=lp4:=⟨_,rfl⟩;rw[<-hLP];rw[<-hLP] at ih;rw[show Item.code LP=.code lp4 by rw[hLP]];simp only[lp4,bd10,nv,Tryz.f10,yv];repeat refine wN ?_
   refine wR ?_;refine wV (J a) ?_;walk_nrm;refine wV (sT VB n vcap) ?_;walk_nrm;refine wV (J n) ?_;walk_nrm;refine wV (.bool true) ?_;walk_nrm;repeat refine wN ?_
   refine wT ?_;repeat refine wN ?_
   refine wR ?_;refine wV (J ((0:Nat):Int)) ?_;walk_nrm;repeat refine wN ?_
   refine qc rfl (fun _=>stepG_loop) ?_;refine loop6 hn hi hA hK ha (fun O' wa' v0 v1 v2 v3 v4 v5 v6 v7 v8 v9 vB vD vE vF vG vH vI vJ vK vL vM vN vO vP vQ vR vS vT vU vV vW vX vY vZ rA rB rC rD rE rF rG rH rI rJ rK rL rM rN rO rP rQ rR rS rT rU rV rW rX rY rZ xA xB xC xD xE xF xG xH xI xJ xK xL xM xN xO xP xQ xR xS xT xU xV xW xX xY hI'=>?_) n 0 (by omega) O wa _ _ _ _ _ _ _ _ _ _ _ _ _ _ _ _ _ _ _ _ _ _ _ _ _ _ _ _ _ _ _ _ _ _ _ _ _ _ _ _ _ _ _ _ _ _ _ _ _ _ _ _ _ _ _ _ _ _ _ _ _ _ _ _ _ _ _ _ _ _ _ _ _ _ _ _ _ _ _ _ _ _ _ _ hI;repeat refine wN ?_
   refine wR ?_;refine wV (J a) ?_;iterate 2 (walk_nrm;refine wV (J ((a+1:Nat):Int)) ?_)
   walk_nrm;repeat refine wN ?_
   refine qc rfl (fun _=>stepG_inLoop) ?_;apply ih (a+1) (by omega) O' wa';exact hI'
theorem ql0{P:Program}{b:Frame}{a:Act}{todo:List Item}{w:World}{fn:Func}{t:Nat}{v:Value}(hni:P.inits.idxOf? b.fn=none)(hn:b.kind=.normal)(hd:a.defers=[])(hf:P.funcs[b.fn]?=some fn)(hr:fn.results=#[.tmp t])(hv:a.tmps.getD t undef=v) :
 stepG P true (G { b.at a todo with mode:=.returning } []) w=.ended (.done v) w #[]:=by
 have h1:(results fn a.tmps).run P w=.ok v w:=(results_tmp hr _ P w).trans (by rw[hv]);have h2:(results fn a.tmps).events P w #[]=#[]:=events_results_tmp hr _ _;simp[G,stepG,unwind,doReturn,Frame.at,hn,hd,hf,h1,h2,seen,GStep.after,hni]
def PostW(L:List (Nat × Obj)):Value->World->Prop:=fun v w=>v=.bool true/\∀x∈L,w.heap[x.1]?=some x.2
noncomputable def tl2:Code:=bd10 [true,true,true,true,true]
theorem Mt.sides{V:Value}(h:Mt n i V us L O wa):∀x∈L,wa.heap[x.1]?=some x.2:=by
 obtain⟨π,w,base,st,pl,v,vs,h1,h2, -⟩:=h;exact fun x hx=>(h2 x hx).2.1
theorem ql1{win P0 G0 Wg:Nat}(hn:1<=n/\n<=6)(hi:3<=i)(h:Ms n win P0 G0 (Lv i n) L O wa)(v0 v1 v2 v3 v4 v6 v7 v8 v9 vA vB vC vD vE vF vG vH vI vJ vK vL vM vN vO vP vQ vR vS vT vU vV vW vX vY vZ rA rB rC rD rE rF rG rH rI rJ rK rL rM rN rO rP rQ rR rS rT rU rV rW rX rY rZ xA xB xC xD xE xF xG xH xI xJ xK xL xM xN xO xP xQ xR xS xT xU xV xW xX xY:Value) :
 Go.Pm.Way Tryz.prog true (fun b=>b<2) (Al 148 Wg .free) (XS Wg .free) (Kt (PostW L) Wg) O (G ((base 10).at ⟨(v0::v1::v2::v3::v4::pT P0 0::v6::v7::v8::v9::vA::vB::vC::vD::vE::vF::vG::vH::vI::vJ::vK::vL::vM::vN::vO::vP::vQ::vR::vS::vT::vU::vV::vW::vX::vY::vZ::rA::rB::rC::rD::rE::rF::rG::rH::rI::rJ::rK::rL::rM::rN::rO::rP::rQ::rR::rS::rT::rU::rV::rW::rX::rY::rZ::xA::xB::xC::xD::xE::xF::xG::xH::xI::xJ::xK::xL::xM::xN::xO::xP::xQ::xR::xS::xT::xU::xV::xW::xX::xY::[]).toArray,[]⟩ [.code tl2]) []) wa:=by
 have hK:∀b,b<2->(fun b=>b<2) b:=fun b hb=>hb;have hA:∀w d,Al 148 Wg .free w->Al 148 Wg .free (w.at d):=fun w d h=>h;obtain⟨L4,hL4⟩:∃L4,L4=lp4:=⟨_,rfl⟩;simp only[tl2,bd10,nv,Tryz.f10,yv];repeat refine wN ?_
 refine wR ?_;refine wV (pT P0 0) ?_;walk_nrm;refine qe rfl rfl (by decide) rfl (fn:=Tryz.f29) rfl (by kernel_rfl) rfl ?_;walk_nrm;refine Ms.still h hi hn hK fun O1 wa1 h1=>?_;rw[yG];walk_nrm;refine wV (.bool true) ?_;walk_nrm;repeat refine wN ?_
 refine wR ?_;refine wV (pT P0 0) ?_;walk_nrm;refine qe rfl rfl (by decide) rfl (fn:=Tryz.f15) rfl (by kernel_rfl) rfl ?_;walk_nrm;refine Ms.tales h1 hn.2 hK fun V us O2 wa2 h2=>?_;obtain⟨-,VB,vcap,rfl, -, -⟩:=h2.form hn.1;rw[yG];walk_nrm;refine wV (.tuple #[sT VB n vcap,.bool true]) ?_;iterate 2 (walk_nrm;refine wV (sT VB n vcap) ?_;walk_nrm;refine wV (.bool true) ?_)
 walk_nrm;repeat refine wN ?_
 refine wR ?_;repeat first|(refine qr rfl rfl ?_;walk_nrm)|(refine qb rfl rfl (by decide) (fun wB h₁=>⟨by (go_simp;(try with_reducible rfl)),by simp[go_sem, *]⟩) ?_;walk_nrm)
 repeat refine wN ?_
 refine wF ?_;repeat refine wN ?_
 refine wR ?_;refine wV (J ((0:Nat):Int)) ?_;walk_nrm;repeat refine wN ?_
 refine qc rfl (fun _=>stepG_loop) ?_;refine loop4 hn hi hA hK (fun O' wa' v0 v1 v2 v3 v4 v5 v6 v7 v8 v9 vA vB vC vD vE vF vG vH vI vJ vK vL vM vN vO vP vQ vR vS vT vU vV vW vX vY vZ rA rB rC rD rE rF rG rH rI rJ rK rL rM rN rO rP rQ rR rS rT rU rV rW rX rY rZ xA xB xC xD xE xF xG xH xI xJ xK xL xM xN xO xP xQ xR xS xT xU xV xW xX xY hI'=>?_) n 0 (by omega) O2 wa2 _ _ _ _ _ _ _ _ _ _ _ _ _ _ _ _ _ _ _ _ _ _ _ _ _ _ _ _ _ _ _ _ _ _ _ _ _ _ _ _ _ _ _ _ _ _ _ _ _ _ _ _ _ _ _ _ _ _ _ _ _ _ _ _ _ _ _ _ _ _ _ _ _ _ _ _ _ _ _ _ _ _ _ _ _ h2;repeat refine wN ?_
 refine wR ?_;refine wV (.bool true) ?_;walk_nrm;repeat refine wN ?_
 refine qc rfl (fun _=>stepG_ret') ?_;refine .stop fun wB h₁ _=>.fin rfl fun wC h₂=>⟨_,_,ql0 (by kernel_rfl) rfl rfl rfl rfl rfl,by simp,rfl,((hI'.rely hK h₁).rely hK h₂).sides⟩
end
section
open Go.RowKit
open Go.Cr Go.Conc
open Go.Pm (Rely Perm Sup Ext Ev)
noncomputable def lp2:Code:=bd10 [true,true,true,true,false,true,false,false]
variable {n win P0 G0:Nat}{L:List (Nat × Obj)}{Post:Value->World->Prop}
theorem loop2(hn:1<=n/\n<=6){k:List Item}
 (hk:∀Wg O wa (v0 v1 v2 v3 v4 v6 v7 v8 v9 vA vB vC vD vE vF vG vH vI vJ vK vL vM vN vO vP vQ vR vS vT vU vV vW vX vY vZ rA rB rC rD rE rF rG rH rI rJ rK rL rM rN rO rP rQ rR rS rT rU rV rW rX rY rZ xA xB xC xD xE xF xG xH xI xJ xK xL xM xN xO xP xQ xR xS xT xU xV xW xX xY:Value),Own O (fun b=>b<2) wa->Ms n win P0 G0 (Lv 8 n) L O wa->Main Tryz.prog 148 Post Wg [] .free O (fun b=>b<2) (G ((base 10).at ⟨(v0::v1::v2::v3::v4::pT P0 0::v6::v7::v8::v9::vA::vB::vC::vD::vE::vF::vG::vH::vI::vJ::vK::vL::vM::vN::vO::vP::vQ::vR::vS::vT::vU::vV::vW::vX::vY::vZ::rA::rB::rC::rD::rE::rF::rG::rH::rI::rJ::rK::rL::rM::rN::rO::rP::rQ::rR::rS::rT::rU::rV::rW::rX::rY::rZ::xA::xB::xC::xD::xE::xF::xG::xH::xI::xJ::xK::xL::xM::xN::xO::xP::xQ::xR::xS::xT::xU::xV::xW::xX::xY::[]).toArray,[]⟩ k) []) wa) :
 ∀ (r i : Nat), i + r = 8 -> ∀ (Wg : Nat) (O : Nat -> Prop) (wa : World) (v0 v1 v2 v3 v4 v6 v7 v9 vA vB vC vD vE vF vG vH vI vJ vK vL vM vN vO vP vQ vR vS vT vU vV vW vX vY vZ rA rB rC rD rE rF rG rH rI rJ rK rL rM rN rO rP rQ rR rS rT rU rV rW rX rY rZ xA xB xC xD xE xF xG xH xI xJ xK xL xM xN xO xP xQ xR xS xT xU xV xW xX xY : Value), Own O (fun b => b < 2) wa -> Ms n win P0 G0 (Lv i n) L O wa ->
   Main Tryz.prog 148 Post Wg [] .free O (fun b=>b<2) (G ((base 10).at ⟨(v0::v1::v2::v3::v4::pT P0 0::v6::v7::.int .i64 ((i:Nat):Int)::v9::vA::vB::vC::vD::vE::vF::vG::vH::vI::vJ::vK::vL::vM::vN::vO::vP::vQ::vR::vS::vT::vU::vV::vW::vX::vY::vZ::rA::rB::rC::rD::rE::rF::rG::rH::rI::rJ::rK::rL::rM::rN::rO::rP::rQ::rR::rS::rT::rU::rV::rW::rX::rY::rZ::xA::xB::xC::xD::xE::xF::xG::xH::xI::xJ::xK::xL::xM::xN::xO::xP::xQ::xR::xS::xT::xU::xV::xW::xX::xY::[]).toArray,[]⟩ (.code lp2::.inLoop lp2::.inBlock 2::k)) []) wa:=by
 have hK:∀b,b<2->(fun b=>b<2) b:=fun b hb=>hb;intro r;induction r with
 | zero =>
   intro i hir Wg O wa;intros
   rename_i hown hI
   obtain rfl:i=8:=by omega
   refine qbj hown ?_;obtain⟨LP,hLP⟩:∃LP,LP=lp2:=⟨_,rfl⟩;rw[<-hLP];rw[show Item.code LP=.code lp2 by rw[hLP]];simp only[lp2,bd10,nv,Tryz.f10,yv];repeat refine wN ?_
   refine wR ?_;refine wV (.int .i64 ((8:Nat):Int)) ?_;walk_nrm;refine wV (.bool false) ?_;walk_nrm;repeat refine wN ?_
   refine wF ?_;refine qc rfl (fun _=>stepG_exit rfl) ?_;exact .stop fun wB h₁ hown'=>by apply hk Wg O wB;exact hown';exact hI.rely hK h₁
 | succ r ih =>
   intro i hir Wg O wa;intros
   rename_i hown hI
   have hlt:(i:Int)<8:=by omega
   have hadd:IntKind.i64.wrap ((i:Int)+1)=((i+1:Nat):Int):=by rw[yat];omega
   refine qbj hown ?_;obtain⟨LP,hLP⟩:∃LP,LP=lp2:=⟨_,rfl⟩;rw[<-hLP];rw[<-hLP] at ih;rw[show Item.code LP=.code lp2 by rw[hLP]];simp only[lp2,bd10,nv,Tryz.f10,yv];repeat refine wN ?_
   refine wR ?_;refine wV (.int .i64 i) ?_;walk_nrm;refine wV (.bool true) ?_;walk_nrm;repeat refine wN ?_
   refine wT ?_;repeat refine wN ?_
   refine wR ?_;iterate 3 (refine wV (pT P0 0) ?_;walk_nrm)
   refine qb (v:=pT G0 0) rfl rfl (by decide) (fun wB h₁=>?_) ?_
   ·obtain⟨sP,c0,c1,c4,c10⟩:=(hI.rely hK h₁).cells;exact⟨by go_simp,by simp[go_sem, *];exact .inl sP⟩
   walk_nrm;refine qe rfl rfl (by decide) rfl (fn:=Tryz.f28) rfl (by kernel_rfl) rfl ?_;walk_nrm;refine .stop fun wB h₁ hown'=>?_;refine qgl (J:=Lv i n) hn hK (fun st pl h=>h.jn) (hI.rely hK h₁) hown' fun Wg' O' wa' m hown2 hM=>?_;have hM2:Ms n win P0 G0 (Lv (i+1) n) L O' wa':=hM.imp fun st' pl' h=>by
    obtain⟨st,fl,outs,h1,h2, -,h4,rfl⟩:=h;exact Lv.round hn.2 h1 h2 h4
   refine qbj hown2 ?_;rw[yG];walk_nrm;repeat refine wN ?_
   refine wR ?_;refine wV (.int .i64 i) ?_;iterate 2 (walk_nrm;refine wV (.int .i64 ((i+1:Nat):Int)) ?_)
   walk_nrm;repeat refine wN ?_
   refine qc rfl (fun _=>stepG_inLoop) ?_;exact .stop fun wC h₂ hown3=>by apply ih (i+1) (by omega) Wg' O' wC;exact hown3;exact hM2.rely hK h₂
end
section
open Go.RowKit
open Go.Cr Go.Conc
open Go.Pm (Rely Perm Sup Ext Ev)
noncomputable def lp0:Code:=bd10 [true,true,true,false,true,false,false]
variable {n win P0 G0:Nat}{L:List (Nat × Obj)}{Post:Value->World->Prop}
theorem Ms.sides{J:(Nat->Pst)->List Par->Prop}{O:Nat->Prop}{wa:World}(h:Ms n win P0 G0 J L O wa):∀x∈L,O x.1/\wa.heap[x.1]?=some x.2:=by
 obtain⟨π,w,pp,gb,FG,st,pl,h1,h2, -⟩:=h;exact fun x hx=>⟨(h2 x hx).1,(h2 x hx).2.1⟩
def Scr(L:List (Nat × Obj))(sa:Option Addr)(len:Nat):Prop:=∀i,i<len->∃ad ad' kd a b c t,sa=some ad/\ad.add (i * 5)=ad'/\I64 kd/\I64 a/\I64 b/\I64 c/\∀(O:Nat->Prop) (wa:World),(∀x∈L,O x.1/\wa.heap[x.1]?=some x.2)->O ad'.block/\∀j u,(qrg kd a b c t)[j]?=some u->wa.cell? (ad'.add j)=some u
theorem loop0(hn:1<=n/\n<=6){sa:Option Addr}{len cap:Nat}(hlen:len<=9223372036854775807)(hscr:Scr L sa len){k:List Item}
 (hk:∀Wg O wa (v0 v1 v2 v3 v4 v6 v7 v8 v9 vA vB vC vD vE vF vG vH vI vJ vK vL vM vN vO vP vQ vR vS vT vU vV vW vX vY vZ rA rB rC rD rE rF rG rH rI rJ rK rL rM rN rO rP rQ rR rS rT rU rV rW rX rY rZ xA xB xC xD xE xF xG xH xI xJ xK xL xM xN xO xP xQ xR xS xT xU xV xW xX xY:Value),Own O (fun b=>b<2) wa->Ms n win P0 G0 (Jn n) L O wa->Main Tryz.prog 148 Post Wg [] .free O (fun b=>b<2) (G ((base 10).at ⟨(v0::v1::v2::v3::v4::pT P0 0::v6::v7::v8::v9::vA::vB::vC::vD::vE::vF::vG::vH::vI::vJ::vK::vL::vM::vN::vO::vP::vQ::vR::vS::vT::vU::vV::vW::vX::vY::vZ::rA::rB::rC::rD::rE::rF::rG::rH::rI::rJ::rK::rL::rM::rN::rO::rP::rQ::rR::rS::rT::rU::rV::rW::rX::rY::rZ::xA::xB::xC::xD::xE::xF::xG::xH::xI::xJ::xK::xL::xM::xN::xO::xP::xQ::xR::xS::xT::xU::xV::xW::xX::xY::[]).toArray,[]⟩ k) []) wa) :
 ∀ (r i : Nat), i + r = len -> ∀ (Wg : Nat) (O : Nat -> Prop) (wa : World) (v0 v2 v3 v4 v7 v8 v9 vA vB vC vD vE vF vG vH vI vJ vK vL vM vN vO vP vQ vR vS vT vU vV vW vX vY vZ rA rB rC rD rE rF rG rH rI rJ rK rL rM rN rO rP rQ rR rS rT rU rV rW rX rY rZ xA xB xC xD xE xF xG xH xI xJ xK xL xM xN xO xP xQ xR xS xT xU xV xW xX xY : Value), Own O (fun b => b < 2) wa -> Ms n win P0 G0 (Jn n) L O wa ->
   Main Tryz.prog 148 Post Wg [] .free O (fun b=>b<2) (G ((base 10).at ⟨(v0::.slice sa len cap::v2::v3::v4::pT P0 0::.int .i64 ((i:Nat):Int)::v7::v8::v9::vA::vB::vC::vD::vE::vF::vG::vH::vI::vJ::vK::vL::vM::vN::vO::vP::vQ::vR::vS::vT::vU::vV::vW::vX::vY::vZ::rA::rB::rC::rD::rE::rF::rG::rH::rI::rJ::rK::rL::rM::rN::rO::rP::rQ::rR::rS::rT::rU::rV::rW::rX::rY::rZ::xA::xB::xC::xD::xE::xF::xG::xH::xI::xJ::xK::xL::xM::xN::xO::xP::xQ::xR::xS::xT::xU::xV::xW::xX::xY::[]).toArray,[]⟩ (.code lp0::.inLoop lp0::.inBlock 0::k)) []) wa:=by
 have hK:∀b,b<2->(fun b=>b<2) b:=fun b hb=>hb;intro r;induction r with
 | zero =>
   intro i hir Wg O wa;intros
   rename_i hown hI
   have hlt:¬(i:Int)<(len:Int):=by omega
   refine qbj hown ?_;obtain⟨LP,hLP⟩:∃LP,LP=lp0:=⟨_,rfl⟩;rw[<-hLP];rw[show Item.code LP=.code lp0 by rw[hLP]];simp only[lp0,bd10,nv,Tryz.f10,yv];repeat refine wN ?_
   refine wR ?_;refine wV (.int .i64 i) ?_;walk_nrm;refine wV (.slice sa len cap) ?_;walk_nrm;refine wV (.int .i64 len) ?_;walk_nrm;refine wV (.bool false) ?_;walk_nrm;repeat refine wN ?_
   refine wF ?_;refine qc rfl (fun _=>stepG_exit rfl) ?_;exact .stop fun wB h₁ hown'=>by apply hk Wg O wB;exact hown';exact hI.rely hK h₁
 | succ r ih =>
   intro i hir Wg O wa;intros
   rename_i hown hI
   have hil:i<len:=by omega
   have hlt:(i:Int)<(len:Int):=by omega
   have hi0:(0:Int)<=(i:Int):=by omega
   have hadd:IntKind.i64.wrap ((i:Int)+1)=((i+1:Nat):Int):=by rw[yat];omega
   obtain⟨ad,ad',kd,a,b,c,t,rfl,had,hkd,ha,hb,hc,hcell⟩:=hscr i hil;refine qbj hown ?_;obtain⟨LP,hLP⟩:∃LP,LP=lp0:=⟨_,rfl⟩;rw[<-hLP];rw[<-hLP] at ih;rw[show Item.code LP=.code lp0 by rw[hLP]];simp only[lp0,bd10,nv,Tryz.f10,yv];repeat refine wN ?_
   refine wR ?_;refine wV (.int .i64 i) ?_;walk_nrm;refine wV (.slice (some ad) len cap) ?_;walk_nrm;refine wV (.int .i64 len) ?_;walk_nrm;refine wV (.bool true) ?_;walk_nrm;repeat refine wN ?_
   refine wT ?_;repeat refine wN ?_
   refine wR ?_;refine wV (.slice (some ad) len cap) ?_;walk_nrm;refine wV (.int .i64 i) ?_;iterate 2 (walk_nrm;refine wV (.pointer (some ad')) ?_)
   walk_nrm;refine qb (v:=.int .i64 kd) rfl rfl (by decide) (fun wB h₁=>?_) ?_
   ·obtain⟨sO,sc⟩:=hcell O wB (hI.rely hK h₁).sides;have c1:wB.cell? ad'=some (.int .i64 kd):=sc 0 _ rfl;exact⟨by go_simp,by simp[go_sem, *];exact .inl sO⟩
   walk_nrm;by_cases hk4:kd=4
   ·skip
    refine wV (.bool false) ?_;walk_nrm;repeat refine wN ?_
    refine wF ?_;repeat refine wN ?_
    refine wR ?_;refine wV (.int .i64 i) ?_;iterate 2 (walk_nrm;refine wV (.int .i64 ((i+1:Nat):Int)) ?_)
    walk_nrm;repeat refine wN ?_
    refine qc rfl (fun _=>stepG_inLoop) ?_;exact .stop fun wC h₂ hown3=>by apply ih (i+1) (by omega) Wg O wC;exact hown3;exact hI.rely hK h₂
   ·skip
    refine wV (.bool true) ?_;walk_nrm;repeat refine wN ?_
    refine wT ?_;repeat refine wN ?_
    refine wR ?_;refine wV (pT P0 0) ?_;walk_nrm;refine wV (.slice (some ad) len cap) ?_;walk_nrm;refine wV (.int .i64 i) ?_;walk_nrm;refine wV (.pointer (some ad')) ?_;walk_nrm;refine qb (v:=.agg (qrg kd a b c t)) rfl rfl (by decide) (fun wB h₁=>?_) ?_
    ·obtain⟨sO,sc⟩:=hcell O wB (hI.rely hK h₁).sides;have c0:wB.cell? ad'=some (.int .i64 kd):=sc 0 _ rfl;have c1:wB.cell? ⟨ad'.block,ad'.off+1,none⟩=some (.int .i64 a):=sc 1 _ rfl;have c2:wB.cell? ⟨ad'.block,ad'.off+2,none⟩=some (.int .i64 b):=sc 2 _ rfl;have c3:wB.cell? ⟨ad'.block,ad'.off+3,none⟩=some (.int .i64 c):=sc 3 _ rfl;have c4:wB.cell? ⟨ad'.block,ad'.off+4,none⟩=some (.string t):=sc 4 _ rfl;exact⟨by go_simp,by simp[go_sem, *];exact⟨.inl sO,.inl sO,.inl sO,.inl sO,.inl sO⟩⟩
    walk_nrm;refine qe rfl rfl (by decide) rfl (fn:=Tryz.f27) rfl (by kernel_rfl) rfl ?_;walk_nrm;refine .stop fun wB h₁ hown'=>?_;refine qpp hn (hI.rely hK h₁) hown' kd a b c t ha hb hc hk4 fun Wg' O' wa' hown2 hM=>?_;refine qbj hown2 ?_;rw[yG];walk_nrm;refine wV (.bool true) ?_;walk_nrm;repeat refine wN ?_
    refine wR ?_;refine wV (.bool true) ?_;walk_nrm;refine wV (.bool false) ?_;walk_nrm;repeat refine wN ?_
    refine wF ?_;repeat refine wN ?_
    refine wR ?_;refine wV (.int .i64 i) ?_;iterate 2 (walk_nrm;refine wV (.int .i64 ((i+1:Nat):Int)) ?_)
    walk_nrm;repeat refine wN ?_
    refine qc rfl (fun _=>stepG_inLoop) ?_;exact .stop fun wC h₂ hown3=>by apply ih (i+1) (by omega) Wg' O' wC;exact hown3;exact hM.rely hK h₂
end
section
open Go.RowKit
open Go.Cr Go.Conc
open Go.Pm (Rely Perm Sup Ext Ev)
noncomputable def tl0:Code:=bd10 [true,true,true,true]
section
variable {L:List (Nat × Obj)}{O:Nat->Prop}{wa:World}
theorem M0.make(h:M0 L O wa)(ob:Obj):M0 ((wa.heap.size,ob)::L) (fun b=>O b\/b=wa.heap.size) (wa.alloc ob):=by
 obtain⟨π,w,h1,h2⟩:=h;have hold:∀b,b<wa.heap.size->(wa.alloc ob).heap[b]?=wa.heap[b]?:=fun b hb=>yQ _ _ _ hb;have hlt:∀r,r<w.heap.size->π.f r<wa.heap.size:=fun r hr=>h1.loose.sim.lt hr;have h10:7<=wa.heap.size:=h1.loose.lowa;refine⟨π,w,⟨⟨fun r o hl hr=>?_,h1.loose.ids,h1.loose.low,by have:=h1.loose.lowa;simp at this ⊢;omega,h1.loose.os,h1.loose.g,h1.loose.b⟩,h1.shut,h1.tab,qae h1.taba fun x hx=>hold x (by omega),fun r h8 hr=>.inl (h1.among r h8 hr)⟩,fun x hx=>?_⟩
 ·rw[hold _ (hlt r (yk.1 hr).1)];exact h1.loose.obj r o hl hr
 ·rcases yF.1 hx with rfl|hx
  ·exact⟨.inr rfl,heap_alloc_new wa ob,fun r _ hr e=>by have:=hlt r hr;simp only at e;omega⟩
  ·obtain⟨z1,z2,z3⟩:=h2 x hx;exact⟨.inl z1,(hold _ (yk.1 z2).1).trans z2,z3⟩
theorem M0.side(h:M0 L O wa){bx:Nat}{cs:Array Value}{ty:TypeId}(hx:(bx,Obj.cells cs ty (0,0))∈L):O bx/\∀(j:Nat) (u:Value),cs[j]?=some u->wa.cell? (aT bx j)=some u:=by
 obtain⟨π,w,h1,h2⟩:=h;obtain⟨z1,z2, -⟩:=h2 _ hx;exact⟨z1,fun j u hu=>BlkAt.cell (T:=ty) (cs:=cs) z2 j u hu⟩
end
theorem qhu(a:Addr)(w:World):(binOp .eql 28 (.pointer (some a)) (.pointer none)).events Tryz.prog w #[]=#[]:=by
 first
 |kernel_rfl
 |rfl
 |(simp[binOp,Op.equal,Op.equalIn,go_sem,Tryz.underlying28])
variable {n win P0 G0:Nat}{L:List (Nat × Obj)}
theorem mid(hn:1<=n/\n<=6)(Wg:Nat)(O:Nat->Prop)(wa:World)(v0 v1 v2 v3 v4 v6 v7 v8 v9 vA vB vC vD vE vF vG vH vI vJ vK vL vM vN vO vP vQ vR vS vT vU vV vW vX vY vZ rA rB rC rD rE rF rG rH rI rJ rK rL rM rN rO rP rQ rR rS rT rU rV rW rX rY rZ xA xB xC xD xE xF xG xH xI xJ xK xL xM xN xO xP xQ xR xS xT xU xV xW xX xY:Value)(hown:Own O (fun b=>b<2) wa)(hI:Ms n win P0 G0 (Jn n) L O wa):Main Tryz.prog 148 (PostW L) Wg [] .free O (fun b=>b<2) (G ((base 10).at ⟨(v0::v1::v2::v3::v4::pT P0 0::v6::v7::v8::v9::vA::vB::vC::vD::vE::vF::vG::vH::vI::vJ::vK::vL::vM::vN::vO::vP::vQ::vR::vS::vT::vU::vV::vW::vX::vY::vZ::rA::rB::rC::rD::rE::rF::rG::rH::rI::rJ::rK::rL::rM::rN::rO::rP::rQ::rR::rS::rT::rU::rV::rW::rX::rY::rZ::xA::xB::xC::xD::xE::xF::xG::xH::xI::xJ::xK::xL::xM::xN::xO::xP::xQ::xR::xS::xT::xU::xV::xW::xX::xY::[]).toArray,[]⟩ [.code tl0]) []) wa:=by
 have hK:∀b,b<2->(fun b=>b<2) b:=fun b hb=>hb;refine qbj hown ?_;simp only[tl0,bd10,nv,Tryz.f10,yv];repeat refine wN ?_
 refine wR ?_;refine wV (J ((0:Nat):Int)) ?_;walk_nrm;repeat refine wN ?_
 refine qc rfl (fun _=>stepG_loop) ?_;exact .stop fun wB h₁ hown1=>loop2 (k:=[.code tl2]) hn (fun Wg O wa v0 v1 v2 v3 v4 v6 v7 v8 v9 vA vB vC vD vE vF vG vH vI vJ vK vL vM vN vO vP vQ vR vS vT vU vV vW vX vY vZ rA rB rC rD rE rF rG rH rI rJ rK rL rM rN rO rP rQ rR rS rT rU rV rW rX rY rZ xA xB xC xD xE xF xG xH xI xJ xK xL xM xN xO xP xQ xR xS xT xU xV xW xX xY hown hI=>qbj hown (ql1 hn (by decide) hI v0 v1 v2 v3 v4 v6 v7 v8 v9 vA vB vC vD vE vF vG vH vI vJ vK vL vM vN vO vP vQ vR vS vT vU vV vW vX vY vZ rA rB rC rD rE rF rG rH rI rJ rK rL rM rN rO rP rQ rR rS rT rU rV rW rX rY rZ xA xB xC xD xE xF xG xH xI xJ xK xL xM xN xO xP xQ xR xS xT xU xV xW xX xY)) 8 0 (by omega) Wg O wB _ _ _ _ _ _ _ _ _ _ _ _ _ _ _ _ _ _ _ _ _ _ _ _ _ _ _ _ _ _ _ _ _ _ _ _ _ _ _ _ _ _ _ _ _ _ _ _ _ _ _ _ _ _ _ _ _ _ _ _ _ _ _ _ _ _ _ _ _ _ _ _ _ _ _ _ _ _ _ _ _ _ _ _ _ hown1 ((hI.imp fun st pl h=>h.lv).rely hK h₁)
theorem ql2{W:World}{O:Nat->Prop}(hT:Tabs W)(h10:7<=W.heap.size)(hL:∀x∈L,O x.1/\W.heap[x.1]?=some x.2)(hown:Own O (fun b=>b<2) W){c0 c1 c2:Int}(h0:I64 c0)(h1:I64 c1)(h2:I64 c2){sa:Option Addr}{len cap:Nat}(hlen:len<=9223372036854775807)(hscr:Scr L sa len) :
 Main Tryz.prog 148 (PostW L) 0 [] .free O (fun b=>b<2) (G (Frame.enter Tryz.prog 10 #[.agg #[J c0,J c1,J c2],.slice sa len cap] .normal) []) W:=by
 have hK:∀b,b<2->(fun b=>b<2) b:=fun b hb=>hb;have hM:=M0.of hT h10 hL;refine qbj hown ?_;obtain⟨T0,hT0⟩:∃T0,T0=tl0:=⟨_,rfl⟩;rw[enter_at _ Tryz.func10 rfl];simp only[Tryz.f10];walk_nrm;repeat refine wN ?_
 refine wR ?_;refine qbz (f:=fun _=>.cells #[J c0,J c1,J c2] 23) rfl rfl (by decide) (fun wC h₂=>⟨by go_simp,by simp[go_sem, *]⟩) fun wC h₂=>?_;walk_nrm;have hI:=(hM.rely hK h₂).make (.cells #[J c0,J c1,J c2] 23);obtain⟨bx,hbx⟩:∃bx,bx=wC.heap.size:=⟨_,rfl⟩;rw[<-hbx] at hI ⊢;generalize wC.alloc (.cells #[J c0,J c1,J c2] 23)=w3 at hI ⊢;generalize (fun b=>O b\/b=bx)=O3 at hI ⊢;clear hM h₂ hbx;refine wV (.bool false) ?_;walk_nrm;repeat refine wN ?_
 refine wR ?_;refine qb (v:=.agg #[J c0,J c1,J c2]) rfl rfl (by decide) (fun wB h₁=>?_) ?_
 ·obtain⟨sO,sc⟩:=(hI.rely hK h₁).side (yY ..);have d0:=sc 0 _ rfl;have d1:=sc 1 _ rfl;have d2:=sc 2 _ rfl;simp only[yf,yd,ye] at d0 d1 d2;exact⟨by go_simp,by simp[go_sem, *];exact⟨.inl sO,.inl sO,.inl sO⟩⟩
 walk_nrm;refine qe rfl rfl (by decide) rfl (fn:=Tryz.f26) rfl (by kernel_rfl) rfl ?_;walk_nrm;refine M0.roomy hI hK c0 c1 c2 h0 h1 h2 fun O4 w4 hI4=>?_;have hn:1<=1+pickN c0 6/\1+pickN c0 6<=6:=by have:=qam c0 (n:=6) (by omega);omega
 have hw:1<=1+pickN c1 8/\1+pickN c1 8<=8:=by have:=qam c1 (n:=8) (by omega);omega
 generalize 1+pickN c0 6=n at hn ⊢;generalize 1+pickN c1 8=win at hw ⊢;rw[yG];walk_nrm;refine qe rfl rfl (by decide) rfl (fn:=Tryz.f25) rfl (by kernel_rfl) rfl ?_;walk_nrm;refine M0.player hI4 hK hn hw fun P0 G0 O5 w5 hI5=>?_;rw[yG];walk_nrm;refine wV (pT P0 0) ?_;walk_nrm;repeat refine wN ?_
 refine wR ?_;refine wV (pT P0 0) ?_;walk_nrm;refine qb (v:=.bool false) rfl rfl (by decide) (fun wB h₁=>⟨by go_simp,by simp[go_sem,qhu]⟩) ?_;walk_nrm;repeat refine wN ?_
 refine wF ?_;repeat refine wN ?_
 refine wR ?_;refine wV (J ((0:Nat):Int)) ?_;walk_nrm;repeat refine wN ?_
 refine qc rfl (fun _=>stepG_loop) ?_;exact .stop fun wB h₁ hown1=>loop0 (k:=[.code tl0]) hn hlen hscr (fun Wg O wa v0 v1 v2 v3 v4 v6 v7 v8 v9 vA vB vC vD vE vF vG vH vI vJ vK vL vM vN vO vP vQ vR vS vT vU vV vW vX vY vZ rA rB rC rD rE rF rG rH rI rJ rK rL rM rN rO rP rQ rR rS rT rU rV rW rX rY rZ xA xB xC xD xE xF xG xH xI xJ xK xL xM xN xO xP xQ xR xS xT xU xV xW xX xY hown hI=>mid hn Wg O wa v0 v1 v2 v3 v4 v6 v7 v8 v9 vA vB vC vD vE vF vG vH vI vJ vK vL vM vN vO vP vQ vR vS vT vU vV vW vX vY vZ rA rB rC rD rE rF rG rH rI rJ rK rL rM rN rO rP rQ rR rS rT rU rV rW rX rY rZ xA xB xC xD xE xF xG xH xI xJ xK xL xM xN xO xP xQ xR xS xT xU xV xW xX xY hown hI) len 0 (by omega) 0 O5 wB _ _ _ _ _ _ _ _ _ _ _ _ _ _ _ _ _ _ _ _ _ _ _ _ _ _ _ _ _ _ _ _ _ _ _ _ _ _ _ _ _ _ _ _ _ _ _ _ _ _ _ _ _ _ _ _ _ _ _ _ _ _ _ _ _ _ _ _ _ _ _ _ _ _ _ _ _ _ _ _ _ _ _ _ hown1 ((hI5.less fun x hx=>y6 _ hx).rely hK h₁)
end
end Go.Proofs.YtoklolfaemhfnaaGreatDoor
namespace Go.Proofs.YtoklolfaemhfnaaGreatDoor.whole
section
open Go.ChangeShapes Go.WideShapes Go.ChangeAt Go.RowKit Go.Joins
open Go.Cr Go.Conc
theorem own:ownKnob Tryz.prog.godebug=none:=by kernel_rfl
theorem laid:laidOutB Tryz.prog=true:=by kernel_rfl
theorem cells23:Tryz.prog.cellsOf 23=3:=by kernel_rfl
theorem cells3:Tryz.prog.cellsOf 3=1:=by kernel_rfl
theorem cells5:Tryz.prog.cellsOf 5=1:=by kernel_rfl
theorem cells9:Tryz.prog.cellsOf 9=1:=by kernel_rfl
theorem cells51:Tryz.prog.cellsOf 51=5:=by kernel_rfl
theorem cells276:Tryz.prog.cellsOf 276=32:=by kernel_rfl
theorem cells277:Tryz.prog.cellsOf 277=64:=by kernel_rfl
theorem qiz{H:Type}{enc:TypeId × Value->H}{P:Program}{f:Func}{s:ChangeSpec}{apart fresh handsOn:Bool}{W W':World}{args:Array Value}{v:Value}{ds gs:List (DataW H)}{before pa pv:List MemPlace}
 (hW:DataW.Whole enc P f.params.toList s.vars apart W args.toList ds gs before)
 (hres:∀(b:Nat) (sp:Nat->Bool) (hd:Bool),DataW.TrodAll enc P W' b sp hd f.resultTypes.toList (v.resultList f.resultTypes.size) (s.fn H (ds++gs)).results [])
 (hargs:DataW.TrodAll enc P W' 0 (fun b=>decide (b<W.heap.size)) true f.params.toList args.toList (s.fn H (ds++gs)).args pa)
 (hvars:DataW.TrodVars enc P W' (fun b=>decide (b<W.heap.size)) s.vars (s.fn H (ds++gs)).vars pv)
 (hps:before=pa++pv) (hk:W.keptBut W' (·∈before)) :
 s.post enc P f apart fresh handsOn false W args v W':=by
 refine⟨ds,gs,before,[],pa,pv,hW,hres _ _ _,hargs,hvars,World.keptBut_mono (fun p hp=>⟨hp,?_⟩) hk,fun h=>by cases h⟩;rw[hps,yz] at hp;exact Or.inr hp
theorem qpq(os:Os)(args:Array Value):laidMetH Tryz.prog Rows.wholeRow.laid ((World.doorLaid Tryz.prog 400 os).forCall (fun _ _=>0) ⟨#[],args,[]⟩).memory:=
 laidMetH_of_parts3 (fuel:=8) (laidMet_of_run' 8 (by kernel_rfl) (by kernel_rfl)) (by kernel_rfl) (by kernel_rfl)
def Small(W:World):Prop:=∀b off u,b<2->W.cell? (aT b off)=some u->∃z,u=.int .u8 z
theorem qq0{W:World}(h:laidMetH Tryz.prog Rows.wholeRow.laid W):Tabs W/\Small W:=by
 rw[Go.MakeChecks.laidMetH_plain _ _ _ (by kernel_rfl)] at h;have h' : laidMet Tryz.prog [("math/bits.deBruijn32tab", Go.Lib.tabData .u8 tab32.toList), ("math/bits.deBruijn64tab", Go.Lib.tabData .u8 tab64.toList)] W := h;have g32 : Tryz.prog.globalNamed "math/bits.deBruijn32tab" = some 0 := by kernel_rfl
 have g64 : Tryz.prog.globalNamed "math/bits.deBruijn64tab" = some 1 := by kernel_rfl
 have h1:=Go.Lib.tabIs_of_head (t:=276) (e:=5) (n:=32) g32 (by kernel_rfl) Tryz.underlying276 Tryz.underlying5 cells5 cells276 h';have h2:=Go.Lib.tabIs_of_head (t:=277) (e:=5) (n:=64) g64 (by kernel_rfl) Tryz.underlying277 Tryz.underlying5 cells5 cells277 (laidMet.tail h');refine⟨⟨fun i hi=>?_,fun i hi=>?_⟩,fun b off u hb hc=>?_⟩
 ·have:=h1.cell g32 i (by simpa[tab32] using hi);rw[this];simp[Array.getD_eq_getD_getElem?,List.getD_eq_getElem?_getD]
 ·have:=h2.cell g64 i (by simpa[tab64] using hi);rw[this];simp[Array.getD_eq_getD_getElem?,List.getD_eq_getElem?_getD]
 ·match b,hb with
  | 0, _ =>
    rw[World.var?_cell g32 h1 off] at hc;simp only[ya7,yZ,yE] at hc;obtain⟨z, -,rfl⟩:=hc;exact⟨z,rfl⟩
  | 1, _ =>
    rw[World.var?_cell g64 h2 off] at hc;simp only[ya7,yZ,yE] at hc;obtain⟨z, -,rfl⟩:=hc;exact⟨z,rfl⟩
theorem qft{z:Int}(h:(Lit.int .i64 z).wf=true):I64 z:=by
 simp[Lit.wf,IntKind.min,IntKind.max,IntKind.signed,IntKind.bits] at h;exact⟨by omega,by omega⟩
section
variable {H:Type}{enc:TypeId × Value->H}
theorem qpr{W:World}{base:Nat}{sp:Nat->Bool}{held:Bool}{fuel:Nat}{cs:List Value}{x:DataW H × List MemPlace}(h:DataW.trod enc Tryz.prog W base sp held fuel 51 cs=some x) :
 ∃kd a b c t,cs=[J kd,J a,J b,J c,.string t]/\I64 kd/\I64 a/\I64 b/\I64 c:=by
 obtain⟨xs,n,rfl, -,hl,hxl,hall⟩:=DataW.trod_struct Tryz.underlying51 h;rw[cells51] at hl;match cs,hl with
 | [v0, v1, v2, v3, v4], _ =>
   have hx5:xs.length=5:=hxl;have e0:DataW.trod enc Tryz.prog W base sp held n 3 ([v0,v1,v2,v3,v4].take (Tryz.prog.cellsOf 3))=xs[0]?:=hall 0 _ rfl;have e1:DataW.trod enc Tryz.prog W base sp held n 3 ([v1,v2,v3,v4].take (Tryz.prog.cellsOf 3))=xs[1]?:=hall 1 _ rfl;have e2:DataW.trod enc Tryz.prog W base sp held n 3 ([v2,v3,v4].take (Tryz.prog.cellsOf 3))=xs[2]?:=hall 2 _ rfl;have e3:DataW.trod enc Tryz.prog W base sp held n 3 ([v3,v4].take (Tryz.prog.cellsOf 3))=xs[3]?:=hall 3 _ rfl;have e4:DataW.trod enc Tryz.prog W base sp held n 9 ([v4].take (Tryz.prog.cellsOf 9))=xs[4]?:=hall 4 _ rfl;rw[cells3,yh (by omega)] at e0 e1 e2 e3;rw[cells9,yh (by omega)] at e4;obtain⟨kd,q0, -,w0⟩:=DataW.trod_int Tryz.underlying3 e0;obtain⟨a,q1, -,w1⟩:=DataW.trod_int Tryz.underlying3 e1;obtain⟨b,q2, -,w2⟩:=DataW.trod_int Tryz.underlying3 e2;obtain⟨c,q3, -,w3⟩:=DataW.trod_int Tryz.underlying3 e3;obtain⟨t,q4, -, -⟩:=DataW.trod_string Tryz.underlying9 e4;simp only[List.take,yar,and_true] at q0 q1 q2 q3 q4;subst q0 q1 q2 q3 q4;exact⟨kd,a,b,c,t,rfl,qft w0,qft w1,qft w2,qft w3⟩
def sidesOf(W:World):List (Nat × Obj):=(List.range W.heap.size).filterMap fun b=>if 2<=b then (W.heap[b]?).map fun o=>(b,o) else none
theorem qcd{W:World}{x:Nat × Obj}:x∈sidesOf W↔2<=x.1/\W.heap[x.1]?=some x.2:=by
 obtain⟨b,o⟩:=x;simp only[sidesOf,List.mem_filterMap,yaa];constructor
 ·rintro⟨c,hc,h⟩;split at h
  ·obtain⟨o',ho,e⟩:=yE.1 h;simp only[yau] at e;obtain⟨rfl,rfl⟩:=e;exact⟨by assumption,ho⟩
  ·cases h
 ·rintro⟨h2,hb⟩;refine⟨b,(yk.1 hb).1,?_⟩;rw[if_pos h2,hb];rfl
theorem qps{w w':World}{a:Addr}(h:w'.heap[a.block]?=w.heap[a.block]?):w'.cell? a=w.cell? a:=by
 unfold World.cell?;rw[h]
theorem qrd{W:World}{fuel:Nat}{sa:Option Addr}{len cap:Nat}{x:DataW H × List MemPlace}(hT:Small W)(h:DataW.trod enc Tryz.prog W 0 (fun _=>true) true fuel 26 [.slice sa len cap]=some x):len<=9223372036854775807/\Scr (sidesOf W) sa len:=by
 rcases Go.Deep.open_slice Tryz.underlying26 h with ⟨e, -⟩|⟨a,len',cap',m,n,D,Pl,e, -,hl,hm,hmm, -,hel⟩
 ·simp only[yar,Value.slice.injEq,and_true] at e;obtain⟨rfl,rfl,rfl⟩:=e;exact⟨by omega,fun i hi=>by omega⟩
 ·simp only[yar,Value.slice.injEq,and_true] at e;obtain⟨rfl,rfl,rfl⟩:=e;refine⟨by simp only[maxLen] at hm;omega,fun i hi=>?_⟩;obtain⟨cs',h1,h2⟩:=hel i (by simp only[if_true] at hmm;omega);obtain⟨kd,p,q,r,t,rfl,k0,k1,k2,k3⟩:=qpr h2;rw[cells51] at h1;have hc:∀j u,(qrg kd p q r t)[j]?=some u->W.cell? ((a.add (i * 5)).add j)=some u:=fun j u hu=>by
   have hj:j<5:=(yk.1 hu).1;rw[(World.cells?_some h1).2.2 j hj];simpa using hu
  refine⟨a,_,kd,p,q,r,t,rfl,rfl,k0,k1,k2,k3,fun O wa hs=>?_⟩;generalize a.add (i * 5)=ad at hc;have c0:W.cell? ad=some (J kd):=hc 0 _ rfl;have hblk:∀j,(ad.add j).block=ad.block:=fun j=>by unfold Addr.add;split <;> rfl
  have hlt:ad.block<W.heap.size:=yI W _ c0;have h2:2<=ad.block:=by
   by_cases hb:2<=ad.block
   ·exact hb
   ·obtain⟨b,off,spot⟩:=ad;cases spot with
    | none =>
      obtain⟨z,hz⟩:=hT b off _ (by simpa using hb) c0;cases hz
    | some _ =>
      unfold World.cell? at c0;split at c0 <;> simp at c0
  obtain⟨ho,hh⟩:=hs (ad.block,W.heap[ad.block]) (qcd.2 ⟨h2,by simp[hlt]⟩);refine⟨ho,fun j u hu=>?_⟩;rw[<-hc j u hu];refine qps ?_;rw[hblk,hh];simp[hlt]
end
theorem begin7:(begin Tryz.prog (fun _ _=>0) default).world.heap.size=7:=by kernel_rfl
theorem globals2:Tryz.prog.globals.size=2:=by kernel_rfl
theorem runs{W:World}(hT:Tabs W)(h10:7<=W.heap.size){c0 c1 c2:Int}(h0:I64 c0)(h1:I64 c1)(h2:I64 c2){sa:Option Addr}{len cap:Nat}(hlen:len<=9223372036854775807)(hscr:Scr (sidesOf W) sa len) :
 Tot Tryz.prog (fun v w'=>v=.bool true/\w'.eo=W.eo/\∀b,b<W.heap.size->w'.heap[b]?=W.heap[b]?) (solo (G (Frame.enter Tryz.prog 10 #[.agg #[J c0,J c1,J c2],.slice sa len cap] .normal) []) W) #[]:=by
 have hO:Own (fun b=>2<=b/\b<W.heap.size) (fun b=>b<2) W:=⟨fun b hb=>hb.2,fun b hb=>by omega,fun b hb hk=>by omega⟩;have hm:=ql2 (cap:=cap) hT h10 (fun x hx=>⟨⟨(qcd.1 hx).1,(yk.1 (qcd.1 hx).2).1⟩,(qcd.1 hx).2⟩) hO h0 h1 h2 hlen hscr;have hk:=hm.kept (K0:=fun b=>b<2) (H0:=fun b=>W.heap[b]?) (e0:=W.eo) (fun b hb=>⟨hb,fun h=>by omega,by omega,rfl⟩) (fun h=>absurd rfl h) rfl;obtain⟨N,last,o,w,t',a1,a2,a3,a4⟩:=qk5 hk hO.lo hO.lk hO.ok;obtain⟨v,rfl,⟨⟨rfl,hs⟩,he,hb⟩,a5⟩:=a4;refine⟨N,last,_,w,t',a1,a2,a3,_,rfl,⟨rfl,he,fun b hlt=>?_⟩,a5⟩;by_cases h2:b<2
 ·exact hb b h2
 ·have:=hs (b,W.heap[b]) (qcd.2 ⟨by show 2<=b;omega,by simp[hlt]⟩);simpa[hlt] using this
theorem lifted(os:Os)(started:os.Started)(H:Type)(enc:TypeId × Value->H) :
 ReturnsInLeavingWide {} Tryz.checked os 10 .any (fun w args=>(Rows.wholeSpec.pre enc Tryz.prog Tryz.f10 [] false w args/\laidMetH Tryz.prog Rows.wholeRow.laid w)/\sizedMet enc Tryz.prog Tryz.f10 (OpenSpec.ofChange Rows.wholeSpec) false w args)
  (Rows.wholeSpec.post enc Tryz.prog Tryz.f10 false true false false):=by
 refine returnsInLeavingWide_of_good (C:=Tryz.checked) own started
  (ChangeSpec.witness_shaped (enc:=enc) (C:=Tryz.checked) (os:=os) (X:=fun w _=>laidMetH Tryz.prog Rows.wholeRow.laid w) false (World.doorLaid Tryz.prog 400 os) #[.agg #[J 0,J 0,J 0],sN] 8 rfl (World.shaped_of_RefB (by kernel_rfl) (by kernel_rfl)) (by kernel_rfl) (by kernel_rfl) (by kernel_rfl) (qpq os _)) ?_
 intro w tape i _ hsh _ hok hpre _;obtain⟨_,_,_,fn',hfn',_,_,_,_,hval0⟩:=hok;have e:fn'=Tryz.f10:=Option.some.inj (hfn'.symm.trans Tryz.func10);subst e;obtain⟨⟨⟨ds,gs,before,hw,_⟩,hx⟩,_⟩:=hpre;have hW:=DataW.Whole.of_heap (w':=w.forCall tape i) (by rfl) hw;have hL:=laidMetH.of_heap (w':=w.forCall tape i) (by rfl) hx;clear hw hx hfn';generalize w.heap.size=base at hval0;generalize w.forCall tape i=W at *;obtain⟨_,args,_⟩:=i;simp only at hW hval0 ⊢;have h7:7<=W.heap.size:=by
  have h:=hsh.2 6 (show Tryz.prog.globals.size<=6 by rw[globals2];decide) (show 6<(begin Tryz.prog (fun _ _=>0) default).world.heap.size by rw[begin7];decide);obtain⟨o,_,ho,_⟩:=h;have:=(yk.1 ho).1;omega
 have hval:∀(j:Nat) t v,Tryz.f10.params[j]?=some t->args[j]?=some v->Value.okWide Tryz.prog W .any base t v:=hval0;have hW':=hW;obtain⟨p,q,hA0,hV,rfl,hfz,hnd⟩:=hW;have hA:DataW.TrodAll enc Tryz.prog W 0 (fun _=>true) true Tryz.f10.params.toList args.toList ds p:=hA0;rw[Tryz.params10] at hA hval;obtain⟨v0,v1,d0,d1,p0,p1,rfl,rfl,rfl,t0,t1⟩:=trodAll_two hA;obtain⟨rfl,rfl⟩:=trodVars_none hV;have t0':=t0;have t1':=t1;obtain⟨c0,c1,c2,y0,y1,y2,m,rfl,rfl,hp0,hy0,hy1,hy2⟩:=open_agg3 Tryz.underlying23 (by kernel_rfl) cells23 (hval 0 23 v0 rfl rfl) t0;obtain⟨x,e0,rfl,wx⟩:=DataW.trod_int Tryz.underlying3 hy0;obtain⟨y,e1,rfl,wy⟩:=DataW.trod_int Tryz.underlying3 hy1;obtain⟨z,e2,rfl,wz⟩:=DataW.trod_int Tryz.underlying3 hy2;simp at e0 e1 e2;subst e0 e1 e2;obtain⟨sa,len,cap,rfl⟩:=okWide_slice Tryz.underlying26 (hval 1 26 v1 rfl rfl);clear hA0 hval0;simp only[ya0] at hW';have hlt:∀x∈p0++p1,x.block<W.heap.size:=fun x hx=>by simpa using hW'.lt x hx
 obtain⟨hT,hS⟩:=qq0 hL;obtain⟨fuel,hf⟩:=t1;obtain⟨hlen,hscr⟩:=qrd hS hf;obtain⟨M,last,o,w',t',b1,b2,b3,v,rfl,⟨rfl,he,hb⟩,b5⟩:=runs (cap:=cap) hT h7 (qft wx) (qft wy) (qft wz) hlen hscr;refine⟨M,last,_,w',t',b1,b2,b3,_,rfl,ChangeSpec.post_blind ?_,b5⟩;have hsz:W.heap.size<=w'.heap.size:=by
  have h1:W.heap[W.heap.size - 1]?=some (W.heap[W.heap.size - 1]'(by omega)):=yl (by omega);have:=(yk.1 ((hb (W.heap.size - 1) (by omega)).trans h1)).1;omega
 have hB:Below W.heap.size W { w' with tape:=W.tape }:=⟨congrArg Prod.fst he,rfl,congrArg Prod.snd he,hsz,hb⟩;exact qiz (pa:=p0++p1) (pv:=[]) hW' (fun _ _ _=>trodAll_mk1 (shut_bool Tryz.underlying4 _))
  (DataW.TrodAll.of_heap (w:={ w' with tape:=W.tape }) (w':=w') rfl (trodAll_mk2 (Below.trod laid (by kernel_rfl) (of_decide_eq_true (by kernel_rfl)) t0' hB (fun x hx=>hlt x (List.mem_append_left _ hx))) (Below.trod laid (by kernel_rfl) (of_decide_eq_true (by kernel_rfl)) t1' hB (fun x hx=>hlt x (List.mem_append_right _ hx))))) rfl (by simp) (hB.frame _)
theorem Rk:joinedFacts Tryz.prog 10 Tryz.f10 Rows.wholeSpec Rows.wholeRow=true:=by kernel_rfl
theorem row:Rows.WholeSaid:=
 OpenClaim.holds_of_wide_leaving 10 Tryz.f10 rfl rfl rfl rfl rfl rfl rfl ⟨rfl,rfl,rfl,rfl,rfl⟩ rfl rfl rfl rfl rfl (by kernel_rfl) Tryz.func10 Rk
  (of_decide_eq_true (by kernel_rfl)) (by unfold Func.isWrapper;first|(rw[if_pos (by decide +kernel)];kernel_rfl)|(rw[if_neg (by decide +kernel)];exact⟨rfl,rfl⟩))
  (fun os started H enc _=>lifted os started H enc)
theorem one:Claim7.holdsOne Tryz.pinned (.plain (OpenSpec.ofChange Rows.wholeSpec)) Rows.wholeCard:=
 Claim7.tied_new_at .later [.data, .data] true (Claim7.new_of_sixth row (true, "16538adf66972231827d652470a0db078b033e0ac1e5dcbe421a8ea9f412f1ef") false rfl ⟨rfl, rfl⟩ (by kernel_rfl) rfl
  (fun f fn hf hfn=>by
   obtain rfl : f = 10 := Option.some.inj ((show Tryz.prog.funcNamed "chorus/choruslaw.Whole" = some 10 by kernel_rfl).symm.trans hf) |>.symm;obtain rfl:fn=Tryz.f10:=(Option.some.inj (Tryz.func10.symm.trans hfn)).symm;exact⟨by kernel_rfl,fun j t ht=>by
    rw[Tryz.params10] at ht;have hm:t∈[23,26]:=by simpa using yaj ht
    have hall:([23,26].all fun u=>!Tryz.prog.wantsStandIn u)=true:=by kernel_rfl
    exact(show Tryz.prog.wantsStandIn t=false by simpa using y5.1 hall t hm)⟩)) (by kernel_rfl)
theorem proved:Rows.WholeCardSaid:=
 ⟨one,(fun _ h=>by cases h),whole_row_tie,(fun h=>by cases h),by kernel_rfl⟩
#print axioms proved
end
end Go.Proofs.YtoklolfaemhfnaaGreatDoor.whole
