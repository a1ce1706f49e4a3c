import Derived.Test.YtoklolfaemhfnaaGreatDoorZbt
import Derived.Test.YtoklolfaemhfnaaGreatDoorZbu
set_option maxRecDepth 100000
set_option maxHeartbeats 8000000
namespace Go.Cr
section
open Go Go.Conc Go.RowKit Go.Conc.Lib Go.ConcR.Gen Go.ConcN.Gen Go.Proofs
open Go.ConcN (WgLive)
open Go.ConcR (KK wgBlock WgAt stA smA rd wr mk DC0 WgAt.setSt WgAt.setSm)
open Go.Pm (Rely Guar Ev grow)
theorem qls{P:Program}{main:Bool}{K:Nat->Prop}{A:World->Prop}{X:Event->Prop}{Stop:(Nat->Prop)->Goroutine->World->Prop}{O:Nat->Prop}{w:World}{b:Frame}{a:Act}{todo:List Item}{c:Frame}{cs:List Frame}{fn:Func}(hn:b.kind=.normal)(hd:a.defers=[])(hf:P.funcs[b.fn]?=some fn)(hr:fn.results=#[])
 (h:Go.Pm.Way P main K A X Stop O (G (c.finish (.tuple #[])) cs) w):Go.Pm.Way P main K A X Stop O (G { b.at a todo with mode:=.returning } (c::cs)) w:=
 qc rfl (fun w=>by rw[stepG_leave hn hd hf (results_none hr _ P w) (events_results_none hr _ _)]) h
section
variable {Post:Value->World->Prop}{O K:Nat->Prop}{gb pb ab n pcp cp:Nat}{pv:Nat->Nat}{sv:Nat->Value}{Bs:Nat->Nat->Prop}{w:World}
set_option maxRecDepth 100000 in
theorem qir(h:Start O K gb pb ab n pcp cp pv sv Bs w){QQ:Nat->Fact}(hchild:∀Wg bx,w.heap.size<=Wg->w.heap.size<=bx->∀k,k<n->Child K ab n cp pv sv Bs QQ w Wg bx k)
 (hQ:∀k,k<n->∀(O':Nat->Prop) (w wB:World),(∀b,O' b\/K b->wB.heap[b]?=w.heap[b]?)->w.heap.size<=wB.heap.size->wB.eo=w.eo->QQ k O' w->QQ k O' wB) {c:Frame}{rest:List Frame}{WgA:Nat}
 (kont:∀(Wg bx:Nat) (On Kn:Nat->Prop) (Os:Nat->Nat->Prop) (w':World),At O K ab n cp Bs w Wg bx n On Kn w'->(∀i,i<n->QQ i (Os i) w')->(∀i,i<n->∀b,Os i b->¬On b/\¬Kn b/\b<w'.heap.size)->(∀i k,i<n->k<n->i≠k->∀b,Os i b->¬Os k b)->
  Main Tryz.prog 148 Post Wg [] .free (fun b=>On b\/∃i,i<n/\Os i b) Kn (G (c.finish (.tuple #[])) rest) w') :
 Main Tryz.prog 148 Post WgA [] .free O K (G (Frame.enter Tryz.prog 60 #[pT gb 0,sT ab n cp] .normal) (c::rest)) w:=by
 rw[enter_at _ Tryz.func60 rfl];refine Main.of_way (Stop:=fun OW g wC=>Main Tryz.prog 148 Post WgA [] .free OW K g wC) ?_ (fun _ _ wC hS=>hS wC (.refl _ _ _ _));simp only[Tryz.f60];walk_nrm;refine wN ?_;refine wR ?_;refine qbz (f:=fun _=>.cells #[sT ab n cp] 100) rfl rfl (by decide) (fun wC h₂=>⟨by go_simp,by simp[go_sem, *]⟩) fun wC h₂=>?_;walk_nrm;have hb3:=heap_alloc_new wC (.cells #[sT ab n cp] 100);have hlow3:∀b,b<wC.heap.size->(wC.alloc (.cells #[sT ab n cp] 100)).heap[b]?=wC.heap[b]?:=fun b hb=>Below.heap_alloc _ _ _ hb;have hs3:(wC.alloc (.cells #[sT ab n cp] 100)).heap.size=wC.heap.size+1:=by simp
 have ho3:(wC.alloc (.cells #[sT ab n cp] 100)).eo=w.eo:=h₂.os;have hz2:=h₂.size;have hsame2:=h₂.own;obtain⟨bx,hbx⟩:∃bx,bx=wC.heap.size:=⟨_,rfl⟩;rw[<-hbx] at hb3 hlow3 hs3 hz2 ⊢;generalize wC.alloc (.cells #[sT ab n cp] 100)=wD at *;clear h₂;refine wN ?_;refine wN ?_;refine wR ?_;refine qbz (f:=fun _=>wgBlock 148 0 0) rfl rfl (by decide) (fun wE h₄=>⟨by simp only[wgBlock];go_simp,by simp[go_sem, *]⟩) fun wE h₄=>?_;walk_nrm;have hw5:=heap_alloc_new wE (wgBlock 148 0 0);have hlow5:∀b,b<wE.heap.size->(wE.alloc (wgBlock 148 0 0)).heap[b]?=wE.heap[b]?:=fun b hb=>Below.heap_alloc _ _ _ hb;have hs5:(wE.alloc (wgBlock 148 0 0)).heap.size=wE.heap.size+1:=by simp
 have ho5:(wE.alloc (wgBlock 148 0 0)).eo=w.eo:=h₄.os.trans ho3;have hz4:=h₄.size;have hsame4:=h₄.own;obtain⟨Wg,hWg⟩:∃Wg,Wg=wE.heap.size:=⟨_,rfl⟩;rw[<-hWg] at hw5 hlow5 hs5 hz4 ⊢;generalize wE.alloc (wgBlock 148 0 0)=wZ at *;clear h₄;refine wN ?_;refine .stop fun wG h₆=>?_;have hW6:WgAt 148 Wg wG 0 0:=(h₆.own Wg (.inl (.inr rfl))).trans hw5;have j:At O K ab n cp Bs w Wg bx 0 (fun b=>((O b\/b=bx)\/b=Wg)/\b≠Wg) K wG:=by
  have old:∀b,b<w.heap.size->O b\/K b->wG.heap[b]?=w.heap[b]?:=fun b hlt hb=>
   (h₆.own b (hb.imp (fun x=>.inl (.inl x)) id)).trans ((hlow5 b (by omega)).trans ((hsame4 b (hb.imp .inl id)).trans ((hlow3 b (by omega)).trans (hsame2 b hb))))
  have hbx6:wG.heap[bx]?=_:=(h₆.own bx (.inl (.inl (.inr rfl)))).trans ((hlow5 bx (by omega)).trans ((hsame4 bx (.inl (.inr rfl))).trans hb3));have hz6:=h₆.size;refine⟨fun b hb _ _=>⟨.inl (.inl hb),by have:=h.lo b hb;omega⟩,.inl ⟨.inl (.inl h.oa),by have:=h.lo ab h.oa;omega⟩,fun b hb=>hb,.inl ⟨.inl (.inr rfl),by omega⟩,?_,fun b hb _=>old b (h.lo b hb) (.inl hb),fun b hb=>old b (h.lk b hb) (.inr hb),(qdc hbx6).1,by omega,h₆.os.trans ho5,⟨by omega,by omega,by omega,by omega,by omega⟩,fun b hb hlt=>⟨?_,fun i hi=>by omega⟩,fun b hb _=>.inl hb⟩
  ·rintro(hx|hx)
   ·exact hx.2 rfl
   ·have:=h.lk Wg hx;omega
  ·rcases hb.1 with (hb|hb)|hb
   ·exact hb
   ·omega
   ·omega
 refine .enter (.inr rfl) hW6 ?_;have hnewW:w.heap.size<=Wg:=j.new.2.1;have hnewB:w.heap.size<=bx:=j.new.1;clear h₆ hw5 hlow5 hs5 ho5 hsame4 hlow3 hs3 ho3 hsame2 hz2 hz4 hb3;have hl:WgLive 148 Wg wG:=⟨0,0,hW6⟩;refine Main.of_way (Stop:=fun OW g wC=>Main Tryz.prog 148 Post Wg [] .sp OW K g wC) ?_ (fun _ _ wC hS=>hS wC (.refl _ _ _ _));refine wN ?_;refine wN ?_;refine wR ?_;iterate 3 (refine wV (pT gb 0) ?_;walk_nrm)
 refine qb rfl rfl (by decide) (v:=sT pb n pcp) (fun wC h₂=>by
  have jC:=At.stab.rely h₂ j;have hp:=jC.g h (by omega);refine⟨by go_simp,fun e he=>?_⟩;simp[go_sem, *] at he;subst he;exact .inl (jC.own gb h.og (fun i hi=>by omega) h.ne.1)) ?_
 walk_nrm;refine wV (.int .i64 n) ?_;walk_nrm;refine wV (.int .i64 ((0:Nat):Int)) ?_;walk_nrm;refine wN ?_;refine wN ?_;refine qc rfl (fun _=>stepG_loop) ?_;refine .stop fun wH h₇=>?_;have hloop:=qnm (Post:=Post) (Wg:=Wg) (bx:=bx) h (hchild Wg bx hnewW hnewB) (c:=c) (rest:=rest) ?_ n 0 (by omega) _ _ wH undef undef undef (pT gb 0) (pT gb 0) (pT gb 0) undef undef undef undef undef undef undef undef (At.stab.rely h₇ j) (h₇.live (fun _=>hl) (by simp))
 ·simp only[lp60,tl60,loopOf,tailOf,Tryz.f60,yv] at hloop;exact hloop
 ·intro On Kn wB T jn hl1 hT h4;obtain⟨QS,hQS⟩:∃QS,QS=(List.range n).map QQ:=⟨_,rfl⟩;rw[<-hQS];have hlen:QS.length=n:=by rw[hQS];simp
  have hget:∀(i:Nat) (Q:Fact),QS[i]?=some Q->i<n/\Q=QQ i:=fun i Q hi=>by
   have hlt:i<n:=by rw[<-hlen];exact(ym.1 hi).1
   rw[hQS,yZ,List.getElem?_range hlt] at hi;exact⟨hlt,(Option.some.inj hi).symm⟩
  have hgq:∀i,i<n->QS[i]?=some (QQ i):=fun i hi=>by rw[hQS,yZ,List.getElem?_range hi];rfl
  refine Main.of_way (Stop:=fun OW g wC=>Main Tryz.prog 148 Post Wg QS .sp OW Kn g wC) ?_ (fun _ _ wC hS=>hS wC (.refl _ _ _ _));simp only[tl60,tailOf,Tryz.f60,yv];refine wR ?_;refine qe rfl rfl (by decide) rfl Tryz.wgLib.f_wait (nm_wait Tryz.link) rfl ?_;have hargs:(#[Operand.tmp 4].map (Act.eval ⟨T,[]⟩))=#[pT Wg 0]:=by
   simp[Act.eval,h4]
  rw[hargs];refine .stop fun wC h₂=>?_;refine qhm (J:=At O K ab n cp Bs w Wg bx n On Kn) Tryz.wgLib At.stab jn.wg (by have:=h.few;omega) (fun i Q hi O' a b hs=>?_) (fun wD Os jD q1 q2 q3=>?_) (At.stab.rely h₂ jn) (h₂.live (fun _=>hl1) (by simp))
  ·obtain⟨hlt,rfl⟩:=hget i Q hi;exact hQ i hlt O' a b fun c hc=>hs c (hc.imp id (jn.ro c))
  ·rw[hlen] at q2 q3 ⊢;refine Main.of_way (Stop:=fun OW g wC=>Main Tryz.prog 148 Post Wg [] .free OW Kn g wC) ?_ (fun _ _ wC hS=>hS wC (.refl _ _ _ _));refine wN ?_;refine qc rfl (fun _=>stepG_end) ?_;refine qls rfl rfl Tryz.func60 rfl ?_;refine .stop fun wE h₄=>kont Wg bx On Kn Os wE (At.stab wD wE (fun b hb=>h₄.own b (hb.imp .inl id)) h₄.size h₄.os jD) (fun i hi=>hQ i hi (Os i) wD wE (fun b hb=>h₄.own b (hb.imp (fun hb=>.inr ⟨i,hi,hb⟩) (jn.ro b))) h₄.size h₄.os (q1 i (QQ i) (hgq i hi))) (fun i hi b hb=>⟨(q2 i hi b hb).1,(q2 i hi b hb).2.1,yg (q2 i hi b hb).2.2 h₄.size⟩) q3
end
end
end Go.Cr
