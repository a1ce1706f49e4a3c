import Derived.Test.YtoklolfaemhfnaaGreatDoorZbr
import Derived.Test.YtoklolfaemhfnaaGreatDoorZbs
import Derived.Test.YtoklolfaemhfnaaGreatDoorZbu
set_option maxRecDepth 100000
set_option maxHeartbeats 8000000
open Go.Proofs.Tryz (prog)
namespace Go.Cr
section
open Go Go.Conc Go.RowKit Go.Conc.Lib Go.ConcR.Gen Go.ConcN.Gen Go.Proofs
open Go.ConcN (WgLive)
open Go.ConcR (KK wgBlock WgAt stA smA rd wr mk DC0 WgAt.setSt WgAt.setSm)
open Go.Pm (Rely Guar Ev grow)
def loopOf:Code->Code
 |.seq _ (.seq _ (.seq (.seq _ (.block _ (.loop c))) _))=>c
 |_=>.skip
def tailOf:Code->Code
 |.seq _ (.seq _ (.seq _ t))=>t
 |_=>.skip
noncomputable def lp60:Code:=loopOf (Tryz.f60.body.getD .skip)
noncomputable def tl60:Code:=tailOf (Tryz.f60.body.getD .skip)
structure Start (O K:Nat->Prop) (gb pb ab n pcp cp:Nat) (pv:Nat->Nat) (sv:Nat->Value) (Bs:Nat->Nat->Prop) (w:World):Prop where
 og:O gb
 op:O pb
 oa:O ab
 few:n<=6
 ne:gb≠ab/\pb≠ab
 g:w.cell? (aT gb 0)=some (sT pb n pcp)
 p:∀i,i<n->w.cell? (aT pb i)=some (.pointer (some ⟨pv i,0,none⟩))
 a:∀i,i<n->w.cell? (aT ab i)=some (sv i)
 bs:∀i,i<n->∀b,Bs i b->O b/\b≠gb/\b≠pb/\b≠ab
 apart:∀i j,i<n->j<n->i≠j->∀b,Bs i b->¬Bs j b
 lo:∀b,O b->b<w.heap.size
 lk:∀b,K b->b<w.heap.size
 ok:∀b,O b->¬K b
structure At (O K:Nat->Prop) (ab n cp:Nat) (Bs:Nat->Nat->Prop) (w:World) (Wg bx k:Nat) (Ok Kk:Nat->Prop) (wB:World):Prop where
 own:∀b,O b->(∀i,i<k->¬Bs i b)->b≠ab->Ok b
 arr:Ok ab\/Kk ab
 ro:∀b,K b->Kk b
 box:Ok bx\/Kk bx
 wg:¬(Ok Wg\/Kk Wg)
 same:∀b,O b->(∀i,i<k->¬Bs i b)->wB.heap[b]?=w.heap[b]?
 sameK:∀b,K b->wB.heap[b]?=w.heap[b]?
 cell:wB.cell? (aT bx 0)=some (sT ab n cp)
 size:w.heap.size<=wB.heap.size
 os:wB.eo=w.eo
 new:w.heap.size<=bx/\w.heap.size<=Wg/\bx<wB.heap.size/\Wg<wB.heap.size/\bx≠Wg
 keep:∀b,Ok b->b<w.heap.size->O b/\∀i,i<k->¬Bs i b
 keepK:∀b,Kk b->b<w.heap.size->K b\/b=ab
section
variable {O K:Nat->Prop}{gb pb ab n pcp cp:Nat}{pv:Nat->Nat}{sv:Nat->Value}{Bs:Nat->Nat->Prop}{w:World}{Wg bx k:Nat}{Ok Kk:Nat->Prop}
theorem At.stab:Stab Ok Kk (At O K ab n cp Bs w Wg bx k Ok Kk):=by
 intro wB wC hs hz ho j;refine⟨j.own,j.arr,j.ro,j.box,j.wg,fun b hb hn=>?_,fun b hb=>(hs b (.inr (j.ro b hb))).trans (j.sameK b hb),(qah (hs bx j.box) 0).trans j.cell,yr j.size hz,ho.trans j.os,⟨j.new.1,j.new.2.1,yg j.new.2.2.1 hz,yg j.new.2.2.2.1 hz,j.new.2.2.2.2⟩,j.keep,j.keepK⟩;by_cases e:b=ab
 ·subst e;exact(hs b j.arr).trans (j.same b hb hn)
 ·exact(hs b (.inl (j.own b hb hn e))).trans (j.same b hb hn)
theorem At.g(h:Start O K gb pb ab n pcp cp pv sv Bs w){wB:World}(j:At O K ab n cp Bs w Wg bx k Ok Kk wB)(hk:k<=n):wB.cell? (aT gb 0)=some (sT pb n pcp):=(qah (j.same gb h.og fun i hi hb=>(h.bs i (by omega) gb hb).2.1 rfl) 0).trans h.g
theorem At.p(h:Start O K gb pb ab n pcp cp pv sv Bs w){wB:World}(j:At O K ab n cp Bs w Wg bx k Ok Kk wB)(hk:k<=n){i:Nat}(hi:i<n):wB.cell? (aT pb i)=some (.pointer (some ⟨pv i,0,none⟩)):=(qah (j.same pb h.op fun i hi hb=>(h.bs i (by omega) pb hb).2.2.1 rfl) i).trans (h.p i hi)
theorem At.a(h:Start O K gb pb ab n pcp cp pv sv Bs w){wB:World}(j:At O K ab n cp Bs w Wg bx k Ok Kk wB)(hk:k<=n){i:Nat}(hi:i<n):wB.cell? (aT ab i)=some (sv i):=(qah (j.same ab h.oa fun i hi hb=>(h.bs i (by omega) ab hb).2.2.2 rfl) i).trans (h.a i hi)
end
section
variable {Post:Value->World->Prop}{O K:Nat->Prop}{gb pb ab n pcp cp:Nat}{pv:Nat->Nat}{sv:Nat->Value}{Bs:Nat->Nat->Prop}{w:World}{Wg bx k:Nat}{Ok Kk:Nat->Prop}{Qs:List Fact}
theorem At.grow1{wB:World}(j:At O K ab n cp Bs w Wg bx k Ok Kk wB){wC:World}(hsame:∀b,b<wB.heap.size->wC.heap[b]?=wB.heap[b]?)(hsz:wB.heap.size<=wC.heap.size)(hos:wC.eo=wB.eo){x:Nat}(hx:wB.heap.size<=x)(hlo:∀b,O b->b<w.heap.size)(hlk:∀b,K b->b<w.heap.size) :
 At O K ab n cp Bs w Wg bx k (fun b=>Ok b\/b=x) Kk wC:=by
 have hz:=j.size;obtain⟨n1,n2,n3,n4,n5⟩:=j.new;exact⟨fun b hb hn e=>.inl (j.own b hb hn e),j.arr.imp .inl id,j.ro,j.box.imp .inl id,fun e=>j.wg (e.imp (fun e=>e.resolve_right fun e=>by omega) id),fun b hb hn=>(hsame b (by have:=hlo b hb;omega)).trans (j.same b hb hn),fun b hb=>(hsame b (by have:=hlk b hb;omega)).trans (j.sameK b hb),
  (qah (hsame bx n3) 0).trans j.cell,yr hz hsz,hos.trans j.os,⟨n1,n2,by omega,by omega,n5⟩,fun b hb hlt=>hb.elim (fun hb=>j.keep b hb hlt) fun e=>by omega,j.keepK⟩
theorem At.set{wB:World}(j:At O K ab n cp Bs w Wg bx k Ok Kk wB){x:Nat}(hx:w.heap.size<=x)(hb:x≠bx)(hlo:∀b,O b->b<w.heap.size)(hlk:∀b,K b->b<w.heap.size)(o:Nat)(v:Value):At O K ab n cp Bs w Wg bx k Ok Kk (wB.setCell ⟨x,o,none⟩ v):=by
 have hA:=aside_setCell wB ⟨x,o,none⟩ v;obtain⟨n1,n2,n3,n4,n5⟩:=j.new;exact⟨j.own,j.arr,j.ro,j.box,j.wg,fun b hb' hn=>(hA.block b (fun e=>by have:=hlo b hb';simp at e;omega)).trans (j.same b hb' hn),fun b hb'=>(hA.block b (fun e=>by have:=hlk b hb';simp at e;omega)).trans (j.sameK b hb'),
  (qah (hA.block bx (fun e=>hb e.symm)) 0).trans j.cell,by rw[hA.size];exact j.size,(Go.Pm.eo_of hA.os hA.output).trans j.os,⟨n1,n2,by rw[hA.size];exact n3,by rw[hA.size];exact n4,n5⟩,j.keep,j.keepK⟩
theorem qdc{w:World}{b:Nat}{u:Value}{t:TypeId}(h:w.heap[b]?=some (.cells #[u] t)):w.cell? (aT b 0)=some u/\w.frozen? (aT b 0)=false:=by
 constructor
 ·unfold World.cell?;simp only[h];rfl
 ·unfold World.frozen?;simp only[h];rfl
theorem qnl{w:World}{b:Nat}{u:Value}{t:TypeId}(h:w.heap[b]?=some (.cells #[u] t))(v:Value):(w.setCell ⟨b,0,none⟩ v).heap[b]?=some (.cells #[v] t):=by
 rw[setCell_eq_setRow w b 0 #[u] t (0,0) _ h,setRow_heap w b _ _ t _ h];simp
def Child(K:Nat->Prop)(ab n cp:Nat)(pv:Nat->Nat)(sv:Nat->Value)(Bs:Nat->Nat->Prop)(QQ:Nat->Fact)(w:World)(Wg bx k:Nat):Prop:=
 ∀ (R : Nat -> Prop) (ic pc : Nat) (wB : World), (∀ b, K b -> R b) -> CK R pc bx ic ab k n cp (.pointer (some ⟨pv k, 0, none⟩)) (sv k) wB -> (∀ b, Bs k b \/ K b -> wB.heap[b]? = w.heap[b]?) -> w.heap.size <= wB.heap.size -> wB.eo = w.eo -> WgLive 148 Wg wB -> Wg < wB.heap.size ->
   ∃T,Wk prog 148 Wg (QQ k) R T 7 0 (Bs k) (born prog (call99 Wg pc bx ic)) wB
set_option maxRecDepth 100000 in
theorem qnm(h:Start O K gb pb ab n pcp cp pv sv Bs w){QQ:Nat->Fact}(hchild:∀k,k<n->Child K ab n cp pv sv Bs QQ w Wg bx k){c:Frame}{rest:List Frame}
 (kont:∀(On Kn:Nat->Prop) (wB:World) (T:Array Value),At O K ab n cp Bs w Wg bx n On Kn wB->WgLive 148 Wg wB->T.size=21->T[4]?=some (pT Wg 0)->Main prog 148 Post Wg ((List.range n).map QQ) .sp On Kn (G ((base 60).at ⟨T,[]⟩ [.code tl60]) (c::rest)) wB) :
 ∀ (r k : Nat), k + r = n -> ∀ (Ok Kk : Nat -> Prop) (wB : World) (v2 v5 v6 v7 v8 v9 v13 v14 v15 v16 v17 v18 v19 v20 : Value), At O K ab n cp Bs w Wg bx k Ok Kk wB -> WgLive 148 Wg wB ->
   Main prog 148 Post Wg ((List.range k).map QQ) .sp Ok Kk (G ((base 60).at ⟨#[pT gb 0,sT ab n cp,v2,pT bx 0,pT Wg 0,v5,v6,v7,v8,v9,sT pb n pcp,.int .i64 n,.int .i64 k,v13,v14,v15,v16,v17,v18,v19,v20],[]⟩
    [.code lp60,.inLoop lp60,.inBlock 0,.code tl60]) (c::rest)) wB:=by
 intro r;induction r with
 | zero =>
   intro k hk Ok Kk wB v2 v5 v6 v7 v8 v9 v13 v14 v15 v16 v17 v18 v19 v20 j hl;obtain rfl:k=n:=by omega
   refine Main.of_way (Stop:=fun OW g wC=>Main prog 148 Post Wg ((List.range k).map QQ) .sp OW Kk g wC) ?_ (fun _ _ wC hS=>hS wC (.refl _ _ _ _));simp only[lp60,loopOf,Tryz.f60,yv];refine wN ?_;refine wR ?_;refine wV (.bool false) ?_;walk_nrm;refine wN ?_;refine wN ?_;refine wF ?_;refine qc rfl (fun _=>stepG_exit rfl) ?_;exact .stop fun wC h₂=>kont Ok Kk wC _ (At.stab.rely h₂ j) (h₂.live (fun _=>hl) (by simp)) (by simp) (by simp)
 | succ r ih =>
   intro k hk Ok Kk wB v2 v5 v6 v7 v8 v9 v13 v14 v15 v16 v17 v18 v19 v20 j hl;have hkn':k<n:=by omega
   have hkn:(k:Int)<(n:Int):=by omega
   have hk0:(0:Int)<=(k:Int):=by omega
   obtain⟨QS,hQS⟩:∃QS,QS=(List.range k).map QQ:=⟨_,rfl⟩;rw[<-hQS];have hlen:QS.length=k:=by rw[hQS];simp
   refine Main.of_way (Stop:=fun OW g wC=>Main prog 148 Post Wg QS .sp OW Kk g wC) ?_ (fun _ _ wC hS=>hS wC (.refl _ _ _ _));obtain⟨LP,hLP⟩:∃LP,LP=lp60:=⟨_,rfl⟩;obtain⟨TL,hTL⟩:∃TL,TL=tl60:=⟨_,rfl⟩;rw[<-hLP,<-hTL];rw[<-hLP,<-hTL] at ih;suffices hX:∀X,X=lp60->Go.Pm.Way prog true Kk (Al 148 Wg .sp) (XS Wg .sp) (fun OW g wC=>Main prog 148 Post Wg QS .sp OW Kk g wC) Ok (G ((base 60).at ⟨#[pT gb 0,sT ab n cp,v2,pT bx 0,pT Wg 0,v5,v6,v7,v8,v9,sT pb n pcp,.int .i64 n,.int .i64 k,v13,v14,v15,v16,v17,v18,v19,v20],[]⟩
    [.code X,.inLoop LP,.inBlock 0,.code TL]) (c::rest)) wB from hX LP hLP
   intro X hX;simp only[lp60,loopOf,Tryz.f60,yv] at hX;subst hX;refine wN ?_;refine wR ?_;refine wV (.bool true) ?_;walk_nrm;refine wN ?_;refine wN ?_;refine wT ?_;iterate 4 (refine wN ?_)
   refine wR ?_;refine wV (.int .i64 k) ?_;walk_nrm;refine wV (pT pb k) ?_;walk_nrm;refine qb rfl rfl (by decide) (v:=.pointer (some ⟨pv k,0,none⟩)) (fun wC h₂=>by
    have jC:=At.stab.rely h₂ j;have hp:=jC.p h (by omega) hkn';refine⟨by go_simp,fun e he=>?_⟩;simp[go_sem, *] at he;subst he;exact .inl (jC.own pb h.op (fun i hi hb=>(h.bs i (by omega) pb hb).2.2.1 rfl) h.ne.2)) ?_
   walk_nrm;refine qbz (f:=fun _=>.cells #[.int .i64 0] 3) rfl rfl (by decide) (fun wC h₂=>⟨by go_simp,by simp[go_sem, *]⟩) fun wC h₂=>?_;walk_nrm;have jC:=(At.stab.rely h₂ j).grow1 (wC:=wC.alloc (.cells #[.int .i64 0] 3)) (fun b hb=>Below.heap_alloc _ _ _ hb) (by simp) rfl (yb _) h.lo h.lk;have hi3:=heap_alloc_new wC (.cells #[.int .i64 0] 3);obtain⟨ic,hic⟩:∃ic,ic=wC.heap.size:=⟨_,rfl⟩;rw[<-hic] at hi3 jC ⊢;have hs3:(wC.alloc (.cells #[.int .i64 0] 3)).heap.size=ic+1:=by rw[hic];simp
   have hnew2:=(At.stab.rely h₂ j).new;have hsz2:=(At.stab.rely h₂ j).size;have hl3:WgLive 148 Wg (wC.alloc (.cells #[.int .i64 0] 3)):=qhl (h₂.live (fun _=>hl) (by simp)) (Below.heap_alloc _ _ _ hnew2.2.2.2.1);generalize wC.alloc (.cells #[.int .i64 0] 3)=wD at *;clear h₂;refine qbz (f:=fun _=>.cells #[.pointer none] 102) rfl rfl (by decide) (fun wE h₄=>⟨by go_simp,by simp[go_sem, *]⟩) fun wE h₄=>?_;walk_nrm;have jE:=At.stab.rely h₄ jC;have hi4:wE.heap[ic]?=_:=(h₄.own ic (.inl (.inr rfl))).trans hi3;have hs4:=h₄.size;rw[hs3] at hs4;have jF:=jE.grow1 (wC:=wE.alloc (.cells #[.pointer none] 102)) (fun b hb=>Below.heap_alloc _ _ _ hb) (by simp) rfl (yb _) h.lo h.lk;have hl5:WgLive 148 Wg (wE.alloc (.cells #[.pointer none] 102)):=qhl (h₄.live (fun _=>hl3) (by simp)) (Below.heap_alloc _ _ _ jE.new.2.2.2.1);have hp5:=heap_alloc_new wE (.cells #[.pointer none] 102);have hi5:(wE.alloc (.cells #[.pointer none] 102)).heap[ic]?=_:=(Below.heap_alloc wE (.cells #[.pointer none] 102) ic (by omega)).trans hi4;obtain⟨pc,hpc⟩:∃pc,pc=wE.heap.size:=⟨_,rfl⟩;rw[<-hpc] at hp5 jF ⊢;generalize wE.alloc (.cells #[.pointer none] 102)=wZ at *;clear h₄;refine qh6 (ad:=(aT ic 0)) (v:=.int .i64 k) rfl rfl (by decide) (.inl (.inr rfl)) (fun wG h₆=>by
    obtain⟨hc,hz⟩:=qdc ((h₆.own ic (.inl (.inl (.inr rfl)))).trans hi5);refine⟨by simp[go_sem,stored,hc,hz],fun e he=>?_⟩;simp[go_sem,storedEv,hc,hz] at he;rw[he]) fun wG h₆=>?_
   walk_nrm;have jG:=At.stab.rely h₆ jF;have hi6:=qnl ((h₆.own ic (.inl (.inl (.inr rfl)))).trans hi5) (.int .i64 k);have hp6:(wG.setCell ⟨ic,0,none⟩ (.int .i64 k)).heap[pc]?=_:=((aside_setCell wG ⟨ic,0,none⟩ (.int .i64 k)).block pc (fun e=>by simp at e;omega)).trans ((h₆.own pc (.inl (.inr rfl))).trans hp5);have hl7:WgLive 148 Wg (wG.setCell ⟨ic,0,none⟩ (.int .i64 k)):=qhl (h₆.live (fun _=>hl5) (by simp)) ((aside_setCell wG ⟨ic,0,none⟩ (.int .i64 k)).block Wg (fun e=>by simp at e;omega));have jH:=jG.set (x:=ic) (by omega) (by omega) h.lo h.lk 0 (.int .i64 k);generalize wG.setCell ⟨ic,0,none⟩ (.int .i64 k)=wH at *;clear h₆;refine qh6 (ad:=(aT pc 0)) (v:=.pointer (some ⟨pv k,0,none⟩)) rfl rfl (by decide) (.inr rfl) (fun wI h₈=>by
    obtain⟨hc,hz⟩:=qdc ((h₈.own pc (.inl (.inr rfl))).trans hp6);refine⟨by simp[go_sem,stored,hc,hz],fun e he=>?_⟩;have hev:=events_store prog wI #[] (aT pc 0) (.pointer (some ⟨pv k,0,none⟩)) .plain rfl;simp[go_sem,hev,hc,hz] at he;rw[he]) fun wI h₈=>?_
   walk_nrm;have jI:=At.stab.rely h₈ jH;have hp8:=qnl ((h₈.own pc (.inl (.inr rfl))).trans hp6) (.pointer (some ⟨pv k,0,none⟩));have hi8:(wI.setCell ⟨pc,0,none⟩ (.pointer (some ⟨pv k,0,none⟩))).heap[ic]?=_:=((aside_setCell wI ⟨pc,0,none⟩ (.pointer (some ⟨pv k,0,none⟩))).block ic (fun e=>by simp at e;omega)).trans ((h₈.own ic (.inl (.inl (.inr rfl)))).trans hi6);have hl9:WgLive 148 Wg (wI.setCell ⟨pc,0,none⟩ (.pointer (some ⟨pv k,0,none⟩))):=qhl (h₈.live (fun _=>hl7) (by simp)) ((aside_setCell wI ⟨pc,0,none⟩ (.pointer (some ⟨pv k,0,none⟩))).block Wg (fun e=>by simp at e;omega));have jJ:=jI.set (x:=pc) (by omega) (by omega) h.lo h.lk 0 (.pointer (some ⟨pv k,0,none⟩));generalize wI.setCell ⟨pc,0,none⟩ (.pointer (some ⟨pv k,0,none⟩))=wJ at *;clear h₈;refine wN ?_;refine wN ?_;refine wR ?_;refine qe rfl rfl (by decide) rfl Tryz.wgLib.f_add (nm_add Tryz.link) rfl ?_;walk_nrm;refine .stop fun wK h₀=>?_;have jj:=At.stab.rely h₀ jJ;have hI:wK.heap[ic]?=_:=(h₀.own ic (.inl (.inl (.inr rfl)))).trans hi8;have hP:wK.heap[pc]?=_:=(h₀.own pc (.inl (.inr rfl))).trans hp8;have hl0:=h₀.live (fun _=>hl9) (by simp);clear h₀ hl9 hl7 hl5 hl3 jJ jI jH jG jF jE jC hi3 hi4 hi5 hi6 hi8 hp5 hp6 hp8;refine qiq (J:=fun w'=>At O K ab n cp Bs w Wg bx k (fun b=>(Ok b\/b=ic)\/b=pc) Kk w'/\w'.heap[ic]?=some (.cells #[.int .i64 k] 3)/\w'.heap[pc]?=some (.cells #[.pointer (some ⟨pv k,0,none⟩)] 102)) Tryz.wgLib (fun a b hs hz ho hx=>⟨At.stab a b hs hz ho hx.1,(hs ic (.inl (.inl (.inr rfl)))).trans hx.2.1,(hs pc (.inl (.inr rfl))).trans hx.2.2⟩) jj.wg (by have:=h.few;omega) (fun wBA hj hl=>?_) ⟨jj,hI,hP⟩ hl0;clear jj hI hP hl0;obtain⟨jj,hI,hP⟩:=hj;walk_nrm;refine Main.of_way (Stop:=fun OW g wC=>Main prog 148 Post Wg QS .go OW Kk g wC) ?_ (fun _ _ wC hS=>hS wC (.refl _ _ _ _));refine wN ?_;refine wR ?_;refine qb rfl rfl (by decide) (v:=.func (.func 99) #[] #[pT Wg 0,pT pc 0,pT bx 0,pT ic 0]) (fun wC h₂=>⟨by simp[go_sem,Instr.makeFunc],fun e he=>by simp[go_sem,Instr.makeFunc] at he⟩) ?_;walk_nrm;refine .stop fun wK h₀=>?_;have jA:=At.stab.rely h₀ jj;have hI0:wK.heap[ic]?=_:=(h₀.own ic (.inl (.inl (.inr rfl)))).trans hI;have hP0:wK.heap[pc]?=_:=(h₀.own pc (.inl (.inr rfl))).trans hP;have hl0:=h₀.live (fun _=>hl) (by simp);clear h₀ hl jj hI hP;obtain⟨n1,n2,n3,n4,n5⟩:=jA.new;have hlow:∀b,O b\/K b->b<ic/\b<pc:=fun b hb=>by
    have:b<w.heap.size:=hb.elim (h.lo b) (h.lk b);omega
   refine qj4 (d:=call99 Wg pc bx ic) rfl rfl (by decide) (fun w'=>by simp[go_sem,call99]) (fun w'=>by simp[go_sem]) rfl (QQ k) (Bs k) (fun b=>K b\/b=bx\/b=ab\/b=ic\/b=pc) (by have:=h.few;omega) (fun b hb=>?_) (fun b hb=>?_) (fun b hb hr=>?_) (fun wB h₁=>?_) (fun wB h₁=>?_)
   ·obtain⟨b1,_,_,b4⟩:=h.bs k hkn' b hb;exact jA.own b b1 (fun i hi hx=>h.apart k i hkn' (by omega) (by omega) b hb hx) b4
   ·rcases hb with hb|rfl|rfl|rfl|rfl
    ·exact .inr (jA.ro b hb)
    ·exact jA.box
    ·exact jA.arr
    ·exact .inl (.inl (.inr rfl))
    ·exact .inl (.inr rfl)
   ·obtain⟨b1,_,_,b4⟩:=h.bs k hkn' b hb;have hb1:=h.lo b b1;have hb2:=hlow b (.inl b1);rcases hr with hr|hr|hr|hr|hr
    ·exact h.ok b b1 hr
    all_goals omega
   ·have jB:=At.stab.rely h₁ jA;refine hchild k hkn' _ ic pc wB (fun b hb=>.inl hb) ⟨.inr (.inr (.inr (.inr rfl))),.inr (.inl rfl),.inr (.inr (.inr (.inl rfl))),.inr (.inr (.inl rfl)),(qdc ((h₁.own pc (.inl (.inr rfl))).trans hP0)).1,jB.cell,(qdc ((h₁.own ic (.inl (.inl (.inr rfl)))).trans hI0)).1,jB.a h (by omega) hkn'⟩ (fun b hb=>?_) jB.size jB.os (h₁.live (fun _=>hl0) (by simp)) jB.new.2.2.2.1;rcases hb with hb|hb
    ·obtain⟨b1,_,_,b4⟩:=h.bs k hkn' b hb;exact jB.same b b1 fun i hi hx=>h.apart k i hkn' (by omega) (by omega) b hb hx
    ·exact jB.sameK b hb
   ·have jB:=At.stab.rely h₁ jA;have hl1:=h₁.live (fun _=>hl0) (by simp);have hn:At O K ab n cp Bs w Wg bx (k+1) (fun b=>((Ok b\/b=ic)\/b=pc)/\¬Bs k b/\¬(K b\/b=bx\/b=ab\/b=ic\/b=pc)) (fun b=>Kk b\/(K b\/b=bx\/b=ab\/b=ic\/b=pc)) wB:=by
     refine⟨fun b hb hn e=>⟨jB.own b hb (fun i hi=>hn i (by omega)) e,hn k (by omega),?_⟩,.inr (.inr (.inr (.inr (.inl rfl)))),fun b hb=>.inl (jB.ro b hb),.inr (.inr (.inr (.inl rfl))),?_,fun b hb hn=>jB.same b hb fun i hi=>hn i (by omega),jB.sameK,jB.cell,jB.size,jB.os,jB.new,fun b hb hlt=>⟨(jB.keep b hb.1 hlt).1,fun i hi=>?_⟩,fun b hb hlt=>?_⟩
     ·have hb1:=h.lo b hb;have hb2:=hlow b (.inl hb);rintro(hr|hr|hr|hr|hr)
      ·exact h.ok b hb hr
      all_goals omega
     ·have ha:=h.lo ab h.oa;rintro(hx|hx|hx|hx|hx|hx|hx)
      ·exact jB.wg (.inl hx.1)
      ·exact jB.wg (.inr hx)
      ·exact jB.wg (.inr (jB.ro _ hx))
      all_goals omega
     ·by_cases e:i=k
      ·subst e;exact hb.2.1
      ·exact(jB.keep b hb.1 hlt).2 i (by omega)
     ·rcases hb with hb|hb|hb|hb|hb|hb
      ·exact jB.keepK b hb hlt
      ·exact .inl hb
      ·omega
      ·exact .inr hb
      all_goals omega
    have hQ':QS++[QQ k]=(List.range (k+1)).map QQ:=by rw[hQS,List.range_succ];simp
    rw[hQ'];have e1:IntKind.i64.wrap ((k:Int)+1)=((k+1:Nat):Int):=by rw[IntKind.wrap_i64];have:=h.few;omega
    walk_nrm;refine Main.of_way (Stop:=fun OW g wC=>Main prog 148 Post Wg ((List.range (k+1)).map QQ) .sp OW _ g wC) ?_ (fun _ _ wC hS=>hS wC (.refl _ _ _ _));obtain⟨QS',hQS'⟩:∃QS',QS'=(List.range (k+1)).map QQ:=⟨_,rfl⟩;rw[<-hQS'];refine wN ?_;refine wN ?_;refine wR ?_;iterate 2 (refine wV (.int .i64 ((k+1:Nat):Int)) ?_;walk_nrm)
    refine wN ?_;refine qc rfl (fun _=>stepG_inLoop) ?_;refine .stop fun wC h₂=>?_;rw[hQS'];apply ih (k+1) (by omega) _ _ wC;exact At.stab.rely h₂ hn;exact h₂.live (fun _=>hl1) (by simp)
end
end
end Go.Cr
namespace Go.Cr
section
open Go Go.Conc Go.RowKit Go.Conc.Lib Go.ConcR.Gen Go.ConcN.Gen Go.Proofs
open Go.ConcN (WgLive)
open Go.ConcR (KK wgBlock WgAt stA smA rd wr mk DC0 WgAt.setSt WgAt.setSm)
open Go.Pm (Rely Guar Ev grow)
theorem qls{P:Program}{main:Bool}{K:Nat->Prop}{A:World->Prop}{X:Event->Prop}{Stop:(Nat->Prop)->Goroutine->World->Prop}{O:Nat->Prop}{w:World}{b:Frame}{a:Act}{todo:List Item}{c:Frame}{cs:List Frame}{fn:Func}(hn:b.kind=.normal)(hd:a.defers=[])(hf:P.funcs[b.fn]?=some fn)(hr:fn.results=#[])
 (h:Go.Pm.Way P main K A X Stop O (G (c.finish (.tuple #[])) cs) w):Go.Pm.Way P main K A X Stop O (G { b.at a todo with mode:=.returning } (c::cs)) w:=
 qc rfl (fun w=>by rw[stepG_leave hn hd hf (results_none hr _ P w) (events_results_none hr _ _)]) h
section
variable {Post:Value->World->Prop}{O K:Nat->Prop}{gb pb ab n pcp cp:Nat}{pv:Nat->Nat}{sv:Nat->Value}{Bs:Nat->Nat->Prop}{w:World}
set_option maxRecDepth 100000 in
theorem qir(h:Start O K gb pb ab n pcp cp pv sv Bs w){QQ:Nat->Fact}(hchild:∀Wg bx,w.heap.size<=Wg->w.heap.size<=bx->∀k,k<n->Child K ab n cp pv sv Bs QQ w Wg bx k)
 (hQ:∀k,k<n->∀(O':Nat->Prop) (w wB:World),(∀b,O' b\/K b->wB.heap[b]?=w.heap[b]?)->w.heap.size<=wB.heap.size->wB.eo=w.eo->QQ k O' w->QQ k O' wB) {c:Frame}{rest:List Frame}{WgA:Nat}
 (kont:∀(Wg bx:Nat) (On Kn:Nat->Prop) (Os:Nat->Nat->Prop) (w':World),At O K ab n cp Bs w Wg bx n On Kn w'->(∀i,i<n->QQ i (Os i) w')->(∀i,i<n->∀b,Os i b->¬On b/\¬Kn b/\b<w'.heap.size)->(∀i k,i<n->k<n->i≠k->∀b,Os i b->¬Os k b)->
  Main Tryz.prog 148 Post Wg [] .free (fun b=>On b\/∃i,i<n/\Os i b) Kn (G (c.finish (.tuple #[])) rest) w') :
 Main Tryz.prog 148 Post WgA [] .free O K (G (Frame.enter Tryz.prog 60 #[pT gb 0,sT ab n cp] .normal) (c::rest)) w:=by
 rw[enter_at _ Tryz.func60 rfl];refine Main.of_way (Stop:=fun OW g wC=>Main Tryz.prog 148 Post WgA [] .free OW K g wC) ?_ (fun _ _ wC hS=>hS wC (.refl _ _ _ _));simp only[Tryz.f60];walk_nrm;refine wN ?_;refine wR ?_;refine qbz (f:=fun _=>.cells #[sT ab n cp] 100) rfl rfl (by decide) (fun wC h₂=>⟨by go_simp,by simp[go_sem, *]⟩) fun wC h₂=>?_;walk_nrm;have hb3:=heap_alloc_new wC (.cells #[sT ab n cp] 100);have hlow3:∀b,b<wC.heap.size->(wC.alloc (.cells #[sT ab n cp] 100)).heap[b]?=wC.heap[b]?:=fun b hb=>Below.heap_alloc _ _ _ hb;have hs3:(wC.alloc (.cells #[sT ab n cp] 100)).heap.size=wC.heap.size+1:=by simp
 have ho3:(wC.alloc (.cells #[sT ab n cp] 100)).eo=w.eo:=h₂.os;have hz2:=h₂.size;have hsame2:=h₂.own;obtain⟨bx,hbx⟩:∃bx,bx=wC.heap.size:=⟨_,rfl⟩;rw[<-hbx] at hb3 hlow3 hs3 hz2 ⊢;generalize wC.alloc (.cells #[sT ab n cp] 100)=wD at *;clear h₂;refine wN ?_;refine wN ?_;refine wR ?_;refine qbz (f:=fun _=>wgBlock 148 0 0) rfl rfl (by decide) (fun wE h₄=>⟨by simp only[wgBlock];go_simp,by simp[go_sem, *]⟩) fun wE h₄=>?_;walk_nrm;have hw5:=heap_alloc_new wE (wgBlock 148 0 0);have hlow5:∀b,b<wE.heap.size->(wE.alloc (wgBlock 148 0 0)).heap[b]?=wE.heap[b]?:=fun b hb=>Below.heap_alloc _ _ _ hb;have hs5:(wE.alloc (wgBlock 148 0 0)).heap.size=wE.heap.size+1:=by simp
 have ho5:(wE.alloc (wgBlock 148 0 0)).eo=w.eo:=h₄.os.trans ho3;have hz4:=h₄.size;have hsame4:=h₄.own;obtain⟨Wg,hWg⟩:∃Wg,Wg=wE.heap.size:=⟨_,rfl⟩;rw[<-hWg] at hw5 hlow5 hs5 hz4 ⊢;generalize wE.alloc (wgBlock 148 0 0)=wZ at *;clear h₄;refine wN ?_;refine .stop fun wG h₆=>?_;have hW6:WgAt 148 Wg wG 0 0:=(h₆.own Wg (.inl (.inr rfl))).trans hw5;have j:At O K ab n cp Bs w Wg bx 0 (fun b=>((O b\/b=bx)\/b=Wg)/\b≠Wg) K wG:=by
  have old:∀b,b<w.heap.size->O b\/K b->wG.heap[b]?=w.heap[b]?:=fun b hlt hb=>
   (h₆.own b (hb.imp (fun x=>.inl (.inl x)) id)).trans ((hlow5 b (by omega)).trans ((hsame4 b (hb.imp .inl id)).trans ((hlow3 b (by omega)).trans (hsame2 b hb))))
  have hbx6:wG.heap[bx]?=_:=(h₆.own bx (.inl (.inl (.inr rfl)))).trans ((hlow5 bx (by omega)).trans ((hsame4 bx (.inl (.inr rfl))).trans hb3));have hz6:=h₆.size;refine⟨fun b hb _ _=>⟨.inl (.inl hb),by have:=h.lo b hb;omega⟩,.inl ⟨.inl (.inl h.oa),by have:=h.lo ab h.oa;omega⟩,fun b hb=>hb,.inl ⟨.inl (.inr rfl),by omega⟩,?_,fun b hb _=>old b (h.lo b hb) (.inl hb),fun b hb=>old b (h.lk b hb) (.inr hb),(qdc hbx6).1,by omega,h₆.os.trans ho5,⟨by omega,by omega,by omega,by omega,by omega⟩,fun b hb hlt=>⟨?_,fun i hi=>by omega⟩,fun b hb _=>.inl hb⟩
  ·rintro(hx|hx)
   ·exact hx.2 rfl
   ·have:=h.lk Wg hx;omega
  ·rcases hb.1 with (hb|hb)|hb
   ·exact hb
   ·omega
   ·omega
 refine .enter (.inr rfl) hW6 ?_;have hnewW:w.heap.size<=Wg:=j.new.2.1;have hnewB:w.heap.size<=bx:=j.new.1;clear h₆ hw5 hlow5 hs5 ho5 hsame4 hlow3 hs3 ho3 hsame2 hz2 hz4 hb3;have hl:WgLive 148 Wg wG:=⟨0,0,hW6⟩;refine Main.of_way (Stop:=fun OW g wC=>Main Tryz.prog 148 Post Wg [] .sp OW K g wC) ?_ (fun _ _ wC hS=>hS wC (.refl _ _ _ _));refine wN ?_;refine wN ?_;refine wR ?_;iterate 3 (refine wV (pT gb 0) ?_;walk_nrm)
 refine qb rfl rfl (by decide) (v:=sT pb n pcp) (fun wC h₂=>by
  have jC:=At.stab.rely h₂ j;have hp:=jC.g h (by omega);refine⟨by go_simp,fun e he=>?_⟩;simp[go_sem, *] at he;subst he;exact .inl (jC.own gb h.og (fun i hi=>by omega) h.ne.1)) ?_
 walk_nrm;refine wV (.int .i64 n) ?_;walk_nrm;refine wV (.int .i64 ((0:Nat):Int)) ?_;walk_nrm;refine wN ?_;refine wN ?_;refine qc rfl (fun _=>stepG_loop) ?_;refine .stop fun wH h₇=>?_;have hloop:=qnm (Post:=Post) (Wg:=Wg) (bx:=bx) h (hchild Wg bx hnewW hnewB) (c:=c) (rest:=rest) ?_ n 0 (by omega) _ _ wH undef undef undef (pT gb 0) (pT gb 0) (pT gb 0) undef undef undef undef undef undef undef undef (At.stab.rely h₇ j) (h₇.live (fun _=>hl) (by simp))
 ·simp only[lp60,tl60,loopOf,tailOf,Tryz.f60,yv] at hloop;exact hloop
 ·intro On Kn wB T jn hl1 hT h4;obtain⟨QS,hQS⟩:∃QS,QS=(List.range n).map QQ:=⟨_,rfl⟩;rw[<-hQS];have hlen:QS.length=n:=by rw[hQS];simp
  have hget:∀(i:Nat) (Q:Fact),QS[i]?=some Q->i<n/\Q=QQ i:=fun i Q hi=>by
   have hlt:i<n:=by rw[<-hlen];exact(ym.1 hi).1
   rw[hQS,yZ,List.getElem?_range hlt] at hi;exact⟨hlt,(Option.some.inj hi).symm⟩
  have hgq:∀i,i<n->QS[i]?=some (QQ i):=fun i hi=>by rw[hQS,yZ,List.getElem?_range hi];rfl
  refine Main.of_way (Stop:=fun OW g wC=>Main Tryz.prog 148 Post Wg QS .sp OW Kn g wC) ?_ (fun _ _ wC hS=>hS wC (.refl _ _ _ _));simp only[tl60,tailOf,Tryz.f60,yv];refine wR ?_;refine qe rfl rfl (by decide) rfl Tryz.wgLib.f_wait (nm_wait Tryz.link) rfl ?_;have hargs:(#[Operand.tmp 4].map (Act.eval ⟨T,[]⟩))=#[pT Wg 0]:=by
   simp[Act.eval,h4]
  rw[hargs];refine .stop fun wC h₂=>?_;refine qhm (J:=At O K ab n cp Bs w Wg bx n On Kn) Tryz.wgLib At.stab jn.wg (by have:=h.few;omega) (fun i Q hi O' a b hs=>?_) (fun wD Os jD q1 q2 q3=>?_) (At.stab.rely h₂ jn) (h₂.live (fun _=>hl1) (by simp))
  ·obtain⟨hlt,rfl⟩:=hget i Q hi;exact hQ i hlt O' a b fun c hc=>hs c (hc.imp id (jn.ro c))
  ·rw[hlen] at q2 q3 ⊢;refine Main.of_way (Stop:=fun OW g wC=>Main Tryz.prog 148 Post Wg [] .free OW Kn g wC) ?_ (fun _ _ wC hS=>hS wC (.refl _ _ _ _));refine wN ?_;refine qc rfl (fun _=>stepG_end) ?_;refine qls rfl rfl Tryz.func60 rfl ?_;refine .stop fun wE h₄=>kont Wg bx On Kn Os wE (At.stab wD wE (fun b hb=>h₄.own b (hb.imp .inl id)) h₄.size h₄.os jD) (fun i hi=>hQ i hi (Os i) wD wE (fun b hb=>h₄.own b (hb.imp (fun hb=>.inr ⟨i,hi,hb⟩) (jn.ro b))) h₄.size h₄.os (q1 i (QQ i) (hgq i hi))) (fun i hi b hb=>⟨(q2 i hi b hb).1,(q2 i hi b hb).2.1,yg (q2 i hi b hb).2.2 h₄.size⟩) q3
end
end
end Go.Cr
