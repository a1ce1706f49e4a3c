import Derived.Test.YtoklolfaemhfnaaGreatDoorZag
set_option maxRecDepth 100000
set_option maxHeartbeats 8000000
namespace Go.Cr
section
open Go Go.Conc
open Go.ConcN (WgLive)
open Go.ConcR (KK wgBlock WgAt stA smA rd wr mk DC0 WgAt.setSt WgAt.setSm)
open Go.Pm (Rely Guar Ev grow Way)
def RO(ty:TypeId)(Wg:Nat)(w wB:World):Prop:=WgLive ty Wg w->WgLive ty Wg wB
theorem qa{ty:TypeId}{Wg:Nat}{w wB:World}(h:WgLive ty Wg w)(r:RO ty Wg w wB):WgLive ty Wg wB:=r h
def RT(_ _:World):Prop:=True
theorem RO.refl(ty:TypeId)(Wg:Nat)(w:World):RO ty Wg w w:=id
section
variable (P:Program)(ty:TypeId)(Wg:Nat)(Fin:Goroutine->World->Prop)
def BE(g:Goroutine)(w:World):Prop:=g.status=.running/\∃g',stepG P true g w=.go g' w #[mk .enable]/\∃m,Goes P true (RO ty Wg) DC0 Fin m g' w
def BR(g:Goroutine)(w:World):Prop:=g.status=.running/\∃g',stepG P true g w=.go g' w #[mk (.read (smA Wg))]/\∃m,Goes P true (RO ty Wg) DC0 (BE P ty Wg Fin) m g' w
def BA(g:Goroutine)(w:World):Prop:=g.status=.running/\∀v:Nat,v<2147483647->WgAt ty Wg w (v * KK) 0->
 ∃ g', stepG P true g w = .go g' (w.setCell (stA Wg) (.int .u64 ((v + 1) * KK))) #[rd (stA Wg), wr (stA Wg)] /\
   (v=0->∃m,Goes P true (RO ty Wg) DC0 (BR P ty Wg Fin) m g' (w.setCell (stA Wg) (.int .u64 ((v+1) * KK))))/\(v≠0->∃m,Goes P true (RO ty Wg) DC0 (BE P ty Wg Fin) m g' (w.setCell (stA Wg) (.int .u64 ((v+1) * KK))))
def BD(g:Goroutine)(w:World):Prop:=g.status=.running/\∃g',stepG P true g w=.go g' w #[mk .disable]/\∃m,Goes P true (RO ty Wg) DC0 (BA P ty Wg Fin) m g' w
def CA(g:Goroutine)(w:World):Prop:=g.status=.running/\∃g',stepG P true g w=.go g' w #[mk (.acquire (stA Wg))]/\∃m,Goes P true RT DC0 Fin m g' w
def CE(g:Goroutine)(w:World):Prop:=g.status=.running/\∃g',stepG P true g w=.go g' w #[mk .enable]/\∃m,Goes P true (RO ty Wg) DC0 (CA P Wg Fin) m g' w
def C4(g:Goroutine)(w:World):Prop:=g.status=.running/\(WgAt ty Wg w 0 0->∃g',stepG P true g w=.go g' w #[rd (stA Wg)]/\∃m,Goes P true (RO ty Wg) DC0 (CE P ty Wg Fin) m g' w)
def C3(g:Goroutine)(w:World):Prop:=g.status=.running/\g.offers=none/\(∀st,WgAt ty Wg w st 0->stepG P true g w=.go { g with status:=.blocked } w #[])/\
 (WgAt ty Wg w 0 1->∃g',stepG P true g w=.go g' (w.setCell (smA Wg) (.int .u32 0)) (semEvents (smA Wg))/\∃m,Goes P true (RO ty Wg) DC0 (C4 P ty Wg Fin) m g' (w.setCell (smA Wg) (.int .u32 0)))
def CW(g:Goroutine)(w:World):Prop:=g.status=.running/\∃g',stepG P true g w=.go g' w #[mk (.write (smA Wg))]/\∃m,Goes P true (RO ty Wg) DC0 (C3 P ty Wg Fin) m g' w
variable (Anch:Goroutine->World->Prop)
def C2(vs:Nat)(g:Goroutine)(w:World):Prop:=g.status=.running/\∀v:Nat,v<2147483648->WgAt ty Wg w (v * KK) 0->
 (v=vs->∃g',stepG P true g w=.go g' (w.setCell (stA Wg) (.int .u64 (v * KK+1))) #[rd (stA Wg),wr (stA Wg)]/\∃m,Goes P true (RO ty Wg) DC0 (CW P ty Wg Fin) m g' (w.setCell (stA Wg) (.int .u64 (v * KK+1))))/\
 (v≠vs->∃g',stepG P true g w=.go g' w #[rd (stA Wg)]/\∃m,Goes P true (RO ty Wg) DC0 Anch m g' w)
def C1(g:Goroutine)(w:World):Prop:=g.status=.running/\∀v:Nat,v<2147483648->WgAt ty Wg w (v * KK) 0->∃g',stepG P true g w=.go g' w #[rd (stA Wg)]/\
 (v=0->∃m,Goes P true (RO ty Wg) DC0 (CE P ty Wg Fin) m g' w)/\(v≠0->∃m,Goes P true (RO ty Wg) DC0 (C2 P ty Wg Fin Anch v) m g' w)
def CD(g:Goroutine)(w:World):Prop:=g.status=.running/\∃g',stepG P true g w=.go g' w #[mk .disable]/\∃m,Goes P true (RO ty Wg) DC0 Anch m g' w
end
section
variable {P:Program}{ty:TypeId}{Post:Value->World->Prop}{Wg:Nat}{Qs:List Fact}{tag:Tag}{O K:Nat->Prop}{g:Goroutine}{w:World}{Fin Anch:Goroutine->World->Prop}
theorem ro_of{O K:Nat->Prop}{tag:Tag}(ht:tag≠.free){w wB:World}(h:Rely O K (Al ty Wg tag) w wB):RO ty Wg w wB:=fun hl=>h.live (fun _=>hl) ht
def Stab(O K:Nat->Prop)(J:World->Prop):Prop:=∀w wB:World,(∀b,O b\/K b->wB.heap[b]?=w.heap[b]?)->w.heap.size<=wB.heap.size->wB.eo=w.eo->J w->J wB
theorem Stab.rely{O K:Nat->Prop}{J:World->Prop}{A:World->Prop}(h:Stab O K J){w wB:World}(hr:Rely O K A w wB)(hj:J w):J wB:=h w wB hr.own hr.size hr.os hj
theorem Stab.aside{O K:Nat->Prop}{J:World->Prop}(h:Stab O K J)(hW:¬(O Wg\/K Wg)){w wB:World}(hr:Aside Wg w wB)(hj:J w):J wB:=h w wB (fun b hb=>hr.block b fun e=>hW (e▸hb)) (by rw[hr.size];exact yb _) (Go.Pm.eo_of hr.os hr.output) hj
theorem Main.of_goes{R:World->World->Prop}{S:Goroutine->World->Prop}{J:World->Prop}(hJ:Stab O K J)(hR:∀w wB,Rely O K (Al ty Wg tag) w wB->R w wB)(k:∀g w,J w->(∀wB,R w wB->S g wB)->Main P ty Post Wg Qs tag O K g w) :
 ∀(n:Nat) {g:Goroutine}{w:World},J w->Goes P true R DC0 S n g w->Main P ty Post Wg Qs tag O K g w:=by
 intro n;induction n with
 |zero=>intro g w hj h;exact k g w hj h
 | succ n ih =>
   intro g w hj h;rcases h with h|⟨hrun,h⟩
   ·exact k g w hj h
   ·refine .idle hrun (fun wB h₁=>?_) fun wB g' w' es h₁ he=>?_
    ·have:=h wB (hR _ _ h₁);cases hs:stepG P true g wB with
     | go g' w' es =>
       rw[hs,goes_go] at this;obtain⟨⟨rfl,rfl⟩,_⟩:=this;exact⟨g',w',#[],rfl,Go.Pm.guar_still (by simp)⟩
     |_=>rw[hs] at this;exact this.elim
    ·have:=h wB (hR _ _ h₁);rw[he,goes_go] at this;obtain⟨⟨rfl,_⟩,h2⟩:=this;rw[Go.Pm.grow_same O rfl];exact ih (hJ.rely h₁ hj) h2
theorem qj{g g':Goroutine}{w w':World}{es es':Array Event}(h:GStep.go g w es=GStep.go g' w' es'):g=g'/\w=w'/\es=es':=by injection h with a b c;exact⟨a,b,c⟩
theorem qh5{m:Mark}{J:World->Prop}(hJ:Stab O K J)(ht:tag≠.free)(hm:m=.read (smA Wg)\/m=.write (smA Wg))(hrun:g.status=.running)(hj:J w)(h:∀wB,J wB->RO ty Wg w wB->∃g',stepG P true g wB=.go g' wB #[mk m]/\Main P ty Post Wg Qs tag O K g' wB):Main P ty Post Wg Qs tag O K g w:=by
 refine .idle hrun (fun wB h₁=>?_) fun wB g' w' es h₁ he=>?_
 ·obtain⟨g',e1,_⟩:=h wB (hJ.rely h₁ hj) (ro_of ht h₁);refine⟨g',wB,_,e1,Go.Pm.guar_still fun e he=>.inr ⟨ht,smA Wg,rfl,?_⟩⟩;simp at he;subst he;rcases hm with rfl|rfl
  ·exact .inl rfl
  ·exact .inr rfl
 ·obtain⟨g'',e1,e2⟩:=h wB (hJ.rely h₁ hj) (ro_of ht h₁);rw[e1] at he;obtain⟨rfl,rfl,_⟩:=qj he;rw[Go.Pm.grow_same O rfl];exact e2
section
variable {J:World->Prop}
theorem qoh(hJ:Stab O K J)(hW:¬(O Wg\/K Wg))(hlen:Qs.length<2147483647)(k:∀g w,J w->(∀wB,RO ty Wg w wB->Fin g wB)->Main P ty Post Wg Qs .go O K g w){n:Nat}(hj:J w)(h:Goes P true (RO ty Wg) DC0 (BD P ty Wg Fin) n g w):Main P ty Post Wg Qs .sp O K g w:=by
 refine Main.of_goes hJ (fun _ _=>ro_of (by simp)) (fun g w hj hS=>?_) n hj h;have be:∀g w,J w->(∀wB,RO ty Wg w wB->BE P ty Wg Fin g wB)->Main P ty Post Wg Qs .ae O K g w:=fun g w hj hS=>by
  refine .en (hS w (.refl ty Wg w)).1 (fun wB h₁=>?_) fun wB g' w' es h₁ he=>?_
  ·obtain⟨_,g',e1,_⟩:=hS wB (ro_of (by simp) h₁);exact⟨g',e1⟩
  ·obtain⟨_,g'',e1,m,e2⟩:=hS wB (ro_of (by simp) h₁);rw[e1] at he;obtain⟨rfl,rfl,_⟩:=qj he;exact Main.of_goes hJ (fun _ _=>ro_of (by simp)) k m (hJ.rely h₁ hj) e2
 refine .kd (hS w (.refl ty Wg w)).1 (fun wB h₁=>?_) fun wB g' w' es h₁ he=>?_
 ·obtain⟨_,g',e1,_⟩:=hS wB (ro_of (by simp) h₁);exact⟨g',e1⟩
 ·obtain⟨_,g'',e1,m,e2⟩:=hS wB (ro_of (by simp) h₁);rw[e1] at he;obtain⟨rfl,rfl,_⟩:=qj he;refine Main.of_goes hJ (fun _ _=>ro_of (by simp)) (fun g w hj hS=>?_) m (hJ.rely h₁ hj) e2;refine .add (hS w (.refl ty Wg w)).1 hlen (fun wB h₁ v hv hw=>?_) fun wB g' w' es v h₁ hv hw he=>?_
  ·obtain⟨g',e1,_⟩:=(hS wB (ro_of (by simp) h₁)).2 v (by omega) hw;exact⟨g',e1⟩
  ·obtain⟨g'',e1,e0,en⟩:=(hS wB (ro_of (by simp) h₁)).2 v (by omega) hw;rw[e1] at he;obtain⟨rfl,rfl,_⟩:=qj he;have hj':=hJ.aside hW (aside_setCell wB (stA Wg) (.int .u64 ((v+1) * KK))) (hJ.rely h₁ hj);by_cases hv0:v=0
   ·obtain⟨m,e2⟩:=e0 hv0;refine Main.of_goes hJ (fun _ _=>ro_of (by simp)) (fun g w hj hS=>?_) m hj' e2;refine qh5 hJ (by simp) (.inl rfl) (hS w (.refl ty Wg w)).1 hj fun wB hj h₁=>?_;obtain⟨_,g',e1,m,e2⟩:=hS wB h₁;exact⟨g',e1,Main.of_goes hJ (fun _ _=>ro_of (by simp)) be m hj e2⟩
   ·obtain⟨m,e2⟩:=en hv0;exact Main.of_goes hJ (fun _ _=>ro_of (by simp)) be m hj' e2
theorem qml(hJ:Stab O K J)(hW:¬(O Wg\/K Wg))(hAn:∀g w,Anch g w->∃m,Goes P true (RO ty Wg) DC0 (C1 P ty Wg Fin Anch) m g w)
 (k:∀g w m (Os:Nat->Nat->Prop),J w->(∀(i:Nat) (Q:Fact),Qs[i]?=some Q->Q (Os i) w)->(∀i,i<Qs.length->∀b,Os i b->¬O b/\¬K b/\b<w.heap.size)->(∀i k,i<Qs.length->k<Qs.length->i≠k->∀b,Os i b->¬Os k b)->
  Goes P true RT DC0 Fin m g w->Main P ty Post Wg [] .free (fun b=>O b\/∃i,i<Qs.length/\Os i b) K g w) :
 ∀b,b<2147483648->∀g w,J w->(∀wB,RO ty Wg w wB->Anch g wB)->Main P ty Post Wg Qs (.an b) O K g w:=by
 have ca:∀g w,J w->(∀wB,RO ty Wg w wB->CA P Wg Fin g wB)->Main P ty Post Wg Qs .aq O K g w:=fun g w hj hS=>by
  refine .aq (hS w (.refl ty Wg w)).1 (fun wB h₁=>?_) fun wB g' w' es Os h₁ q1 q2 q3 he=>?_
  ·obtain⟨_,g',e1,_⟩:=hS wB (ro_of (by simp) h₁);exact⟨g',e1⟩
  ·obtain⟨_,g'',e1,m,e2⟩:=hS wB (ro_of (by simp) h₁);rw[e1] at he;obtain⟨rfl,rfl,_⟩:=qj he;exact k _ _ m Os (hJ.rely h₁ hj) q1 q2 q3 e2
 have ce:∀g w,J w->(∀wB,RO ty Wg w wB->CE P ty Wg Fin g wB)->Main P ty Post Wg Qs .ke O K g w:=fun g w hj hS=>by
  refine .ke (hS w (.refl ty Wg w)).1 (fun wB h₁=>?_) fun wB g' w' es h₁ he=>?_
  ·obtain⟨_,g',e1,_⟩:=hS wB (ro_of (by simp) h₁);exact⟨g',e1⟩
  ·obtain⟨_,g'',e1,m,e2⟩:=hS wB (ro_of (by simp) h₁);rw[e1] at he;obtain⟨rfl,rfl,_⟩:=qj he;exact Main.of_goes hJ (fun _ _=>ro_of (by simp)) ca m (hJ.rely h₁ hj) e2
 have c4:∀g w,J w->(∀wB,RO ty Wg w wB->C4 P ty Wg Fin g wB)->Main P ty Post Wg Qs .w4 O K g w:=fun g w hj hS=>by
  refine .l4 (hS w (.refl ty Wg w)).1 (fun wB h₁ hw=>?_) fun wB g' w' es h₁ hw he=>?_
  ·obtain⟨g',e1,_⟩:=(hS wB (ro_of (by simp) h₁)).2 hw;exact⟨g',e1⟩
  ·obtain⟨g'',e1,m,e2⟩:=(hS wB (ro_of (by simp) h₁)).2 hw;rw[e1] at he;obtain⟨rfl,rfl,_⟩:=qj he;exact Main.of_goes hJ (fun _ _=>ro_of (by simp)) ce m (hJ.rely h₁ hj) e2
 have c3:∀g w,J w->(∀wB,RO ty Wg w wB->C3 P ty Wg Fin g wB)->Main P ty Post Wg Qs .w3 O K g w:=fun g w hj hS=>by
  refine .sem (hS w (.refl ty Wg w)).1 (hS w (.refl ty Wg w)).2.1 (fun wB h₁ st hw=>(hS wB (ro_of (by simp) h₁)).2.2.1 st hw) (fun wB h₁ hw=>?_) fun wB g' w' es h₁ hw he=>?_
  ·obtain⟨g',e1,_⟩:=(hS wB (ro_of (by simp) h₁)).2.2.2 hw;exact⟨g',e1⟩
  ·obtain⟨g'',e1,m,e2⟩:=(hS wB (ro_of (by simp) h₁)).2.2.2 hw;rw[e1] at he;obtain⟨rfl,rfl,_⟩:=qj he;exact Main.of_goes hJ (fun _ _=>ro_of (by simp)) c4 m (hJ.aside hW (aside_setCell wB (smA Wg) _) (hJ.rely h₁ hj)) e2
 have cw:∀g w,J w->(∀wB,RO ty Wg w wB->CW P ty Wg Fin g wB)->Main P ty Post Wg Qs .w3 O K g w:=fun g w hj hS=>by
  refine qh5 hJ (by simp) (.inr rfl) (hS w (.refl ty Wg w)).1 hj fun wB hj h₁=>?_;obtain⟨_,g',e1,m,e2⟩:=hS wB h₁;exact⟨g',e1,Main.of_goes hJ (fun _ _=>ro_of (by simp)) c3 m hj e2⟩
 intro b;induction b using Nat.strongRecOn with
 | _ b ih =>
   intro hb g w hj hS;obtain⟨m,hm⟩:=hAn g w (hS w (.refl ty Wg w));refine Main.of_goes hJ (fun _ _=>ro_of (by simp)) (fun g w hj hS=>?_) m hj hm;refine .ld (hS w (.refl ty Wg w)).1 (fun wB h₁ v hv hw=>?_) (fun wB g' w' es h₁ hw he=>?_) fun wB g' w' es v h₁ hv1 hv hw he=>?_
   ·obtain⟨g',e1,_⟩:=(hS wB (ro_of (by simp) h₁)).2 v (by omega) hw;exact⟨g',e1⟩
   ·obtain⟨g'',e1,e0,_⟩:=(hS wB (ro_of (by simp) h₁)).2 0 (by omega) hw;rw[e1] at he;obtain⟨rfl,rfl,_⟩:=qj he;obtain⟨m,e2⟩:=e0 rfl;exact Main.of_goes hJ (fun _ _=>ro_of (by simp)) ce m (hJ.rely h₁ hj) e2
   ·obtain⟨g'',e1,_,en⟩:=(hS wB (ro_of (by simp) h₁)).2 v (by omega) hw;rw[e1] at he;obtain⟨rfl,rfl,_⟩:=qj he;obtain⟨m,e2⟩:=en (by omega);refine Main.of_goes hJ (fun _ _=>ro_of (by simp)) (fun g w hj hS=>?_) m (hJ.rely h₁ hj) e2;refine .cas (hS w (.refl ty Wg w)).1 (fun wB h₁ hw=>?_) (fun wB h₁ v' hv' hw=>?_) (fun wB g' w' es h₁ hw he=>?_) fun wB g' w' es v' h₁ hv' hw he=>?_
    ·obtain⟨g',e1,_⟩:=((hS wB (ro_of (by simp) h₁)).2 v (by omega) hw).1 rfl;exact⟨g',e1⟩
    ·obtain⟨g',e1,_⟩:=((hS wB (ro_of (by simp) h₁)).2 v' (by omega) hw).2 (by omega);exact⟨g',e1⟩
    ·obtain⟨g'',e1,m,e2⟩:=((hS wB (ro_of (by simp) h₁)).2 v (by omega) hw).1 rfl;rw[e1] at he;obtain⟨rfl,rfl,_⟩:=qj he;exact Main.of_goes hJ (fun _ _=>ro_of (by simp)) cw m (hJ.aside hW (aside_setCell wB (stA Wg) _) (hJ.rely h₁ hj)) e2
    ·obtain⟨g'',e1,m,e2⟩:=((hS wB (ro_of (by simp) h₁)).2 v' (by omega) hw).2 (by omega);rw[e1] at he;obtain⟨rfl,rfl,_⟩:=qj he;exact Main.of_goes hJ (fun _ _=>ro_of (by simp)) (fun g w hj hS=>ih v' (by omega) (by omega) g w hj hS) m (hJ.rely h₁ hj) e2
theorem qmm(hJ:Stab O K J)(hW:¬(O Wg\/K Wg))(hAn:∀g w,Anch g w->∃m,Goes P true (RO ty Wg) DC0 (C1 P ty Wg Fin Anch) m g w)(hlen:Qs.length<2147483648)
 (k:∀g w m (Os:Nat->Nat->Prop),J w->(∀(i:Nat) (Q:Fact),Qs[i]?=some Q->Q (Os i) w)->(∀i,i<Qs.length->∀b,Os i b->¬O b/\¬K b/\b<w.heap.size)->(∀i k,i<Qs.length->k<Qs.length->i≠k->∀b,Os i b->¬Os k b)->
  Goes P true RT DC0 Fin m g w->Main P ty Post Wg [] .free (fun b=>O b\/∃i,i<Qs.length/\Os i b) K g w) {n:Nat} (hj:J w) (h:Goes P true (RO ty Wg) DC0 (CD P ty Wg Anch) n g w):Main P ty Post Wg Qs .sp O K g w:=by
 refine Main.of_goes hJ (fun _ _=>ro_of (by simp)) (fun g w hj hS=>?_) n hj h;refine .wd (hS w (.refl ty Wg w)).1 (fun wB h₁=>?_) fun wB g' w' es h₁ he=>?_
 ·obtain⟨_,g',e1,_⟩:=hS wB (ro_of (by simp) h₁);exact⟨g',e1⟩
 ·obtain⟨_,g'',e1,m,e2⟩:=hS wB (ro_of (by simp) h₁);rw[e1] at he;obtain⟨rfl,rfl,_⟩:=qj he;exact Main.of_goes hJ (fun _ _=>ro_of (by simp)) (fun g w hj hS=>qml hJ hW hAn k _ hlen g w hj hS) m (hJ.rely h₁ hj) e2
end
end
section
variable (P:Program)(ty:TypeId)(Wg:Nat)
def E4(g:Goroutine)(w:World):Prop:=g.status=.running/\mayWake P g=true/\(WgAt ty Wg w 0 0->∃g',stepG P false g w=.go g' (w.setCell (smA Wg) (.int .u32 1)) (semEvents (smA Wg))/\∃q,QuitsD P q 1 g')
def E3(g:Goroutine)(w:World):Prop:=g.status=.running/\(WgAt ty Wg w 1 0->∃g',stepG P false g w=.go g' (w.setCell (stA Wg) (.int .u64 0)) #[wr (stA Wg)]/\∃m,Goes P false (RO ty Wg) DC0 (E4 P ty Wg) m g' (w.setCell (stA Wg) (.int .u64 0)))
def E2(g:Goroutine)(w:World):Prop:=g.status=.running/\(WgAt ty Wg w 1 0->∃g',stepG P false g w=.go g' w #[rd (stA Wg)]/\∃m,Goes P false (RO ty Wg) DC0 (E3 P ty Wg) m g' w)
def E1(g:Goroutine)(w:World):Prop:=g.status=.running/\∀v wt:Nat,wt<=1->v<2147483647->WgAt ty Wg w ((v+1) * KK+wt) 0->
 ∃ g', stepG P false g w = .go g' (w.setCell (stA Wg) (.int .u64 (v * KK + wt))) #[rd (stA Wg), wr (stA Wg)] /\
   ((v=0/\wt=1)->∃m,Goes P false (RO ty Wg) DC0 (E2 P ty Wg) m g' (w.setCell (stA Wg) (.int .u64 (v * KK+wt))))/\(¬(v=0/\wt=1)->∃q,QuitsD P q 1 g')
def EK(g:Goroutine)(w:World):Prop:=g.status=.running/\∃g',stepG P false g w=.go g' w #[mk .disable]/\∃m,Goes P false (RO ty Wg) DC0 (E1 P ty Wg) m g' w
def ER(g:Goroutine)(w:World):Prop:=g.status=.running/\∃g',stepG P false g w=.go g' w #[mk (.releaseMerge (stA Wg))]/\∃m,Goes P false (RO ty Wg) DC0 (EK P ty Wg) m g' w
end
theorem qc3{P:Program}:∀{n m d:Nat}{g:Goroutine},QuitsD P n d g->n<=m->QuitsD P m d g
 |0,0,_,_,h,_=>h
 |0,m+1,_,_,h,_=>.inl h
 |n+1,0,_,_,_,hm=>by omega
 |n+1,m+1,_,_,h,hm=>h.imp id fun ⟨hs,g',es,h1,h2,h3⟩=>⟨hs,g',es,h1,h2,qc3 h3 (by omega)⟩
section
variable {P:Program}{ty:TypeId}{Wg:Nat}{Q:Fact}{K:Nat->Prop}
theorem roW{O K:Nat->Prop}{w wB:World}(h:Rely O K (WgLive ty Wg) w wB):RO ty Wg w wB:=h.live
theorem qmn{O:Nat->Prop}{g:Goroutine}{w:World}{M:Tree->World->(Nat->Prop)->Goroutine->World->Prop}(h:∀wB,Rely O K (WgLive ty Wg) w wB->∃T,∀g' w' es,stepG P false g wB=.go g' w' es->M T wB (grow O wB w') g' w') :
 ∃f:World->Tree,∀wB g' w' es,Rely O K (WgLive ty Wg) w wB->stepG P false g wB=.go g' w' es->M (f wB) wB (grow O wB w') g' w':=by
 refine⟨fun wB=>open Classical in if hr:Rely O K (WgLive ty Wg) w wB then Classical.choose (h wB hr) else .leaf,fun wB g' w' es hr he=>?_⟩;simp only[dif_pos hr];exact Classical.choose_spec (h wB hr) g' w' es he
theorem Wk.of_way{Stop:(Nat->Prop)->Goroutine->World->Prop}{O:Nat->Prop}{g:Goroutine}{w:World}(h:Go.Pm.Way P false K (WgLive ty Wg) XNone Stop O g w)(k:∀O g w,(∀wB,Rely O K (WgLive ty Wg) w wB->Stop O g wB)->∃T,Wk P ty Wg Q K T 7 0 O g w):∃T,Wk P ty Wg Q K T 7 0 O g w:=by
 induction h with
 |stop h=>exact k _ _ _ h
 | @step O g w hrun hgo h ih =>
   obtain⟨f,hf⟩:=qmn (P:=P) (O:=O) (K:=K) (ty:=ty) (Wg:=Wg) (g:=g) (w:=w) (M:=fun T _ O' g' w'=>Wk P ty Wg Q K T 7 0 O' g' w') fun wB hr=>by
    obtain⟨g',w',es,e1,_⟩:=hgo wB hr;obtain⟨T,hT⟩:=ih wB g' w' es hr e1;refine⟨T,fun g'' w'' es' e2=>?_⟩;rw[e1] at e2;obtain⟨rfl,rfl,_⟩:=qj e2;exact hT
   exact⟨.node f,.idle (.inl ⟨rfl,rfl⟩) hrun (fun wB hr=>let ⟨g',w',es,e1,e2⟩:=hgo wB hr;⟨g',w',es,e1,e2,fun e=>absurd rfl e⟩) hf⟩
theorem Wk.of_goes{S:Goroutine->World->Prop}{s d:Nat}(hs:(s=7/\d=0)\/(s=6/\d=0)\/(2<=s/\s<=5/\d=1)){O:Nat->Prop}{J:World->Prop}(hJ:∀w wB,Rely O K (WgLive ty Wg) w wB->J w->J wB)(k:∀g w,J w->(∀wB,RO ty Wg w wB->S g wB)->∃T,Wk P ty Wg Q K T s d O g w) :
 ∀(n:Nat) {g:Goroutine}{w:World},J w->Goes P false (RO ty Wg) DC0 S n g w->∃T,Wk P ty Wg Q K T s d O g w:=by
 intro n;induction n with
 |zero=>intro g w hj h;exact k g w hj h
 | succ n ih =>
   intro g w hj h;rcases h with h|⟨hrun,h⟩
   ·exact k g w hj h
   ·obtain⟨f,hf⟩:=qmn (P:=P) (O:=O) (K:=K) (ty:=ty) (Wg:=Wg) (g:=g) (w:=w) (M:=fun T _ O' g' w'=>Wk P ty Wg Q K T s d O' g' w') fun wB hr=>by
     have:=h wB (roW hr);cases hst:stepG P false g wB with
     | go g' w' es =>
       rw[hst,goes_go] at this;obtain⟨⟨rfl,rfl⟩,h2⟩:=this;obtain⟨T,hT⟩:=ih (hJ _ _ hr hj) h2;refine⟨T,fun g'' w'' es' e2=>?_⟩;obtain⟨rfl,rfl,_⟩:=qj e2;rw[Go.Pm.grow_same O rfl];exact hT
     |_=>rw[hst] at this;exact this.elim
    refine⟨.node f,.idle hs hrun (fun wB hr=>?_) hf⟩;have:=h wB (roW hr);cases hst:stepG P false g wB with
    | go g' w' es =>
      rw[hst,goes_go] at this;obtain⟨⟨rfl,rfl⟩,_⟩:=this;exact⟨g',w',#[],rfl,Go.Pm.guar_still (by simp),fun _=>⟨rfl,rfl⟩⟩
    |_=>rw[hst] at this;exact this.elim
theorem qbn{O:Nat->Prop}{g:Goroutine}{w:World}{C:World->Prop}{M:Tree->Goroutine->World->Prop}(h:∀wB,Rely O K (WgLive ty Wg) w wB->C wB->∃T,∀g' w' es,stepG P false g wB=.go g' w' es->M T g' w') :
 ∃f:World->Tree,∀wB g' w' es,Rely O K (WgLive ty Wg) w wB->C wB->stepG P false g wB=.go g' w' es->M (f wB) g' w':=by
 refine⟨fun wB=>open Classical in if hr:Rely O K (WgLive ty Wg) w wB/\C wB then Classical.choose (h wB hr.1 hr.2) else .leaf,fun wB g' w' es hr hc he=>?_⟩;simp only[dif_pos (And.intro hr hc)];exact Classical.choose_spec (h wB hr hc) g' w' es he
theorem Wk.of_done{O:Nat->Prop}{n:Nat}{g:Goroutine}{w:World}(hQ:∀wB,Rely O K (WgLive ty Wg) w wB->Q O wB)(h:Goes P false (RO ty Wg) DC0 (ER P ty Wg) n g w):∃T,Wk P ty Wg Q K T 7 0 O g w:=by
 have tr:∀w wB:World,Rely O K (WgLive ty Wg) w wB->True->True:=fun _ _ _ h=>h;have e4:∀g w,True->(∀wB,RO ty Wg w wB->E4 P ty Wg g wB)->∃T,Wk P ty Wg Q K T 2 1 O g w:=fun g w _ hS=>by
  obtain⟨f,hf⟩:=qbn (P:=P) (O:=O) (K:=K) (ty:=ty) (Wg:=Wg) (g:=g) (w:=w) (C:=fun wB=>WgAt ty Wg wB 0 0) (M:=fun T g' w'=>Wk P ty Wg Q K T 1 1 O g' w') fun wB hr hc=>by
   obtain⟨g',e1,q,hq⟩:=(hS wB (roW hr)).2.2 hc;obtain⟨T,hT⟩:=Wk.of_quits hq;refine⟨T,fun g'' w'' es e2=>?_⟩;rw[e1] at e2;obtain⟨rfl,rfl,_⟩:=qj e2;exact hT _ _ _ _ _ _
  refine⟨.node f,.d4 (hS w (.refl ty Wg w)).1 (hS w (.refl ty Wg w)).2.1 (fun wB hr hc=>?_) hf⟩;obtain⟨g',e1,q,hq⟩:=(hS wB (roW hr)).2.2 hc;refine⟨g',e1,?_⟩;cases q with
  |zero=>exact absurd hq.2 (by decide)
  |succ q=>exact hq.elim (fun x=>absurd x.2 (by decide)) fun x=>x.1
 have e3:∀g w,True->(∀wB,RO ty Wg w wB->E3 P ty Wg g wB)->∃T,Wk P ty Wg Q K T 3 1 O g w:=fun g w _ hS=>by
  obtain⟨f,hf⟩:=qbn (P:=P) (O:=O) (K:=K) (ty:=ty) (Wg:=Wg) (g:=g) (w:=w) (C:=fun wB=>WgAt ty Wg wB 1 0) (M:=fun T g' w'=>Wk P ty Wg Q K T 2 1 O g' w') fun wB hr hc=>by
   obtain⟨g',e1,m,e2⟩:=(hS wB (roW hr)).2 hc;obtain⟨T,hT⟩:=Wk.of_goes (.inr (.inr ⟨by omega,by omega,rfl⟩)) tr e4 m trivial e2;refine⟨T,fun g'' w'' es e3=>?_⟩;rw[e1] at e3;obtain⟨rfl,rfl,_⟩:=qj e3;exact hT
  exact⟨.node f,.d3 (hS w (.refl ty Wg w)).1 (fun wB hr hc=>let ⟨g',e1,_⟩:=(hS wB (roW hr)).2 hc;⟨g',e1⟩) hf⟩
 have e2:∀g w,True->(∀wB,RO ty Wg w wB->E2 P ty Wg g wB)->∃T,Wk P ty Wg Q K T 4 1 O g w:=fun g w _ hS=>by
  obtain⟨f,hf⟩:=qbn (P:=P) (O:=O) (K:=K) (ty:=ty) (Wg:=Wg) (g:=g) (w:=w) (C:=fun wB=>WgAt ty Wg wB 1 0) (M:=fun T g' w'=>Wk P ty Wg Q K T 3 1 O g' w') fun wB hr hc=>by
   obtain⟨g',e1,m,e2⟩:=(hS wB (roW hr)).2 hc;obtain⟨T,hT⟩:=Wk.of_goes (.inr (.inr ⟨by omega,by omega,rfl⟩)) tr e3 m trivial e2;refine⟨T,fun g'' w'' es e3=>?_⟩;rw[e1] at e3;obtain⟨rfl,rfl,_⟩:=qj e3;exact hT
  exact⟨.node f,.d2 (hS w (.refl ty Wg w)).1 (fun wB hr hc=>let ⟨g',e1,_⟩:=(hS wB (roW hr)).2 hc;⟨g',e1⟩) hf⟩
 have e1:∀g w,True->(∀wB,RO ty Wg w wB->E1 P ty Wg g wB)->∃T,Wk P ty Wg Q K T 5 1 O g w:=fun g w _ hS=>by
  obtain⟨f,hf⟩:=qbn (P:=P) (O:=O) (K:=K) (ty:=ty) (Wg:=Wg) (g:=g) (w:=w) (C:=fun wB=>∃v wt:Nat,wt<=1/\v<2147483647/\WgAt ty Wg wB ((v+1) * KK+wt) 0)
   (M:=fun T g' w'=>(∃v wt:Nat,wt<=1/\v<2147483647/\WgAt ty Wg w' (v * KK+wt) 0/\((v=0/\wt=1)->Wk P ty Wg Q K T 4 1 O g' w')/\(¬(v=0/\wt=1)->Wk P ty Wg Q K T 1 1 O g' w'))) fun wB hr hc=>by
    obtain⟨v,wt,hwt,hv,hw⟩:=hc;obtain⟨g',e1,h4,h1⟩:=(hS wB (roW hr)).2 v wt hwt hv hw;by_cases hl:v=0/\wt=1
    ·obtain⟨m,e3⟩:=h4 hl;obtain⟨T,hT⟩:=Wk.of_goes (.inr (.inr ⟨by omega,by omega,rfl⟩)) tr e2 m trivial e3;refine⟨T,fun g'' w'' es e3=>?_⟩;rw[e1] at e3;obtain⟨rfl,rfl,_⟩:=qj e3;exact⟨v,wt,hwt,hv,hw.setSt _,fun _=>hT,fun h=>absurd hl h⟩
    ·obtain⟨q,hq⟩:=h1 hl;obtain⟨T,hT⟩:=Wk.of_quits hq;refine⟨T,fun g'' w'' es e3=>?_⟩;rw[e1] at e3;obtain⟨rfl,rfl,_⟩:=qj e3;exact⟨v,wt,hwt,hv,hw.setSt _,fun h=>absurd h hl,fun _=>hT _ _ _ _ _ _⟩
  have st_inj:∀{w':World}{a b:Int},WgAt ty Wg w' a 0->WgAt ty Wg w' b 0->a=b:=fun h1 h2=>by
   unfold WgAt wgBlock at h1 h2;rw[h1] at h2;injection h2 with h2;injection h2 with h2;simpa using h2
  refine⟨.node f,.add (hS w (.refl ty Wg w)).1 (fun wB hr v wt hwt hv hw=>let ⟨g',e1,_⟩:=(hS wB (roW hr)).2 v wt hwt hv hw;⟨g',e1⟩) (fun wB g' w' es hr hw he=>?_) fun wB g' w' es v wt hr hwt hv hw hne he=>?_⟩
  ·obtain⟨g'',e1,_⟩:=(hS wB (roW hr)).2 0 1 (by omega) (by omega) hw;obtain⟨v,wt,hwt,hv,hw',h4,h1⟩:=hf wB g' w' es hr ⟨0,1,by omega,by omega,hw⟩ he;rw[e1] at he;obtain⟨rfl,rfl,_⟩:=qj he;have:=st_inj hw' (hw.setSt _);simp only[KK] at this;exact h4 (by omega)
  ·obtain⟨g'',e1,_⟩:=(hS wB (roW hr)).2 v wt hwt hv hw;obtain⟨v',wt',hwt',hv',hw',h4,h1⟩:=hf wB g' w' es hr ⟨v,wt,hwt,hv,hw⟩ he;rw[e1] at he;obtain⟨rfl,rfl,_⟩:=qj he;have:=st_inj hw' (hw.setSt _);simp only[KK] at this;exact h1 (by omega)
 have ek:∀g w,True->(∀wB,RO ty Wg w wB->EK P ty Wg g wB)->∃T,Wk P ty Wg Q K T 6 0 O g w:=fun g w _ hS=>by
  obtain⟨f,hf⟩:=qbn (P:=P) (O:=O) (K:=K) (ty:=ty) (Wg:=Wg) (g:=g) (w:=w) (C:=fun _=>True) (M:=fun T g' w'=>Wk P ty Wg Q K T 5 1 O g' w') fun wB hr _=>by
   obtain⟨_,g',e2,m,e3⟩:=hS wB (roW hr);obtain⟨T,hT⟩:=Wk.of_goes (.inr (.inr ⟨by omega,by omega,rfl⟩)) tr e1 m trivial e3;refine⟨T,fun g'' w'' es e3=>?_⟩;rw[e2] at e3;obtain⟨rfl,rfl,_⟩:=qj e3;exact hT
  exact⟨.node f,.dis (hS w (.refl ty Wg w)).1 (fun wB hr=>let ⟨_,g',e1,_⟩:=hS wB (roW hr);⟨g',e1⟩) fun wB g' w' es hr he=>hf wB g' w' es hr trivial he⟩
 refine Wk.of_goes (J:=fun w=>∀wB,Rely O K (WgLive ty Wg) w wB->Q O wB) (.inl ⟨rfl,rfl⟩) (fun w wB hr hj wC h₂=>hj wC (hr.trans h₂)) (fun g w hj hS=>?_) n hQ h;obtain⟨f,hf⟩:=qbn (P:=P) (O:=O) (K:=K) (ty:=ty) (Wg:=Wg) (g:=g) (w:=w) (C:=fun _=>True) (M:=fun T g' w'=>Wk P ty Wg Q K T 6 0 O g' w') fun wB hr _=>by
  obtain⟨_,g',e2,m,e3⟩:=hS wB (roW hr);obtain⟨T,hT⟩:=Wk.of_goes (.inr (.inl ⟨rfl,rfl⟩)) tr ek m trivial e3;refine⟨T,fun g'' w'' es e3=>?_⟩;rw[e2] at e3;obtain⟨rfl,rfl,_⟩:=qj e3;exact hT
 exact⟨.node f,.rel (hS w (.refl ty Wg w)).1 hj (fun wB hr=>let ⟨_,g',e1,_⟩:=hS wB (roW hr);⟨g',e1⟩) fun wB g' w' es hr he=>hf wB g' w' es hr trivial he⟩
end
end
end Go.Cr
