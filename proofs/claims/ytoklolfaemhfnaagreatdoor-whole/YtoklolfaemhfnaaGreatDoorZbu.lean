import Derived.Test.YtoklolfaemhfnaaGreatDoorZbs
set_option maxRecDepth 100000
set_option maxHeartbeats 8000000
namespace Go.Cr
section
open Go Go.Conc Go.RowKit Go.Conc.Lib Go.ConcR.Gen Go.ConcN.Gen
open Go.ConcN (WgLive)
open Go.ConcR (KK wgBlock WgAt stA smA rd wr mk DC0 WgAt.setSt WgAt.setSm)
section
variable {L:WgLink}{Wg:Nat}{Fin:Goroutine->World->Prop}
 {bA:Frame}{aA:Act}{opsA:Array Oper}{iA:Nat}{restA:List Nat}{kA:List Item}{cs:List Frame}{mT:Nat}
set_option maxRecDepth 100000 in
theorem waitRound{P:Program}(H:WgLib P L)
 (hT:∀w,Goes P true RT DC0 Fin mT (G (bA.at (aA.put ((opsA[iA]?).bind (·.dst)) (.tuple #[])) (.inRegion opsA restA::kA)) cs) w)
 (g:Goroutine) (w:World) (h:AnchWN L (fun _=>True) Wg (bA.at aA (.inRegion opsA (iA::restA)::kA)) cs g w) :
 ∃m,Goes P true (RO L.tWg Wg) DC0 (C1 P L.tWg Wg Fin (AnchWN L (fun _=>True) Wg (bA.at aA (.inRegion opsA (iA::restA)::kA)) cs)) m g w:=by
 lib_facts
 obtain⟨T,rfl,hT84,t0,_,hF⟩:=h;obtain⟨v0,v1,v2,v3,v4,v5,v6,v7,v8,v9,v10,v11,v12,v13,v14,v15,v16,v17,v18,v19,v20,v21,v22,v23,v24,v25,v26,v27,v28,v29,v30,v31,v32,v33,v34,v35,v36,v37,v38,v39,v40,v41,v42,v43,v44,v45,v46,v47,v48,v49,v50,v51,v52,v53,v54,v55,v56,v57,v58,v59,v60,v61,v62,v63,v64,v65,v66,v67,v68,v69,v70,v71,v72,v73,v74,v75,v76,v77,v78,v79,v80,v81,v82,v83,rfl⟩:=array84 T hT84;simp only[ya7,yak,yA] at t0;subst t0;refine⟨40,?_⟩;simp only[L7,body_wait,waitFn,yv];u_c stepG_block qa hF
 u_c sQ qa hF
 u_reg qa hF
 iterate 3 (u_op qa hF)
 u_call H.f_uLoad (nm_uLoad L) uLoadFn qa hF
 u_c sQ qa hF
 u_reg qa hF
 u_op qa hF
 u_c sE qa hF
 u_c sQ qa hF
 u_reg qa hF
 iterate 3 (u_op qa hF)
 refine Goes.stop (fun wB h₁=>?_);replace hF:=qa hF h₁;clear h₁;refine⟨rfl,fun v hv hw=>?_⟩;rcases ybh v with rfl|hvp
 ·replace hw:WgAt L.tWg Wg wB 0 0:=by simpa using hw
  refine⟨_,stepG_load_atomic (v:=0) rfl rfl (by k_ne) rfl H.f_loadU64 (x_loadU64_n L) (x_loadU64_b L) (x_loadU64_x L) .u64 (x_loadU64_f L) rfl hw.cellSt,fun _=>⟨70,?_⟩,fun h=>absurd rfl h⟩;clear hw;walk_nrm;u_op qa hF
  u_c sE qa hF
  u_c stepG_ret' qa hF
  u_leave1 H.f_uLoad qa hF
  u_op qa hF
  u_c sE qa hF
  u_c sQ qa hF
  u_reg qa hF
  iterate 4 (u_op qa hF)
  u_c sE qa hF
  u_c sQ qa hF
  u_reg qa hF
  iterate 4 (u_op qa hF)
  u_c sE qa hF
  iterate 2 (u_c sQ qa hF)
  u_reg qa hF
  iterate 2 (u_op qa hF)
  u_c sE qa hF
  iterate 2 (u_cond true qa hF;u_c sQ qa hF)
  u_reg qa hF
  refine Goes.stop (fun wZ h₅=>?_);replace hF:=qa hF h₅;clear h₅;refine⟨rfl,_,stepG_mark0 .enable (by simp) rfl rfl (by k_ne) rfl H.f_enable (x_enable_n L) (x_enable_b L) (x_enable_x L) (x_enable_f L),20,?_⟩;walk_nrm;u_c sE qa hF
  u_reg qa hF
  u_op qa hF
  u_conv H.underlying_tWgP H.room_tWg (WgLive.cell0 hF).choose_spec qa hF
  refine Goes.stop (fun wG h₆=>?_);replace hF:=qa hF h₆;clear h₆;refine⟨rfl,_,stepG_markAt .acquire (by simp) rfl rfl (by k_ne) rfl H.f_acquire (x_acquire_n L) (x_acquire_b L) (x_acquire_x L) (x_acquire_f L) (by simp[Act.eval,stA]),⟨mT+20,?_⟩⟩;clear hF;have hF:True:=trivial;walk_nrm;u_c sE (fun h _=>h) hF
  iterate 2 (u_c sQ (fun h _=>h) hF)
  u_reg (fun h _=>h) hF
  iterate 8 (u_op (fun h _=>h) hF)
  iterate 2 (u_skip (fun h _=>h) hF)
  u_op (fun h _=>h) hF
  u_c sE (fun h _=>h) hF
  u_cond false (fun h _=>h) hF
  u_c sK (fun h _=>h) hF
  u_c stepG_ret' (fun h _=>h) hF
  u_leave0 H.f_wait (fun h _=>h) hF
  exact(hT _).mono (by omega)
 ·obtain⟨S,hS⟩:∃S:Int,(v:Int) * KK=S:=⟨_,rfl⟩;have a1:S / 4294967296=(v:Int):=by rw[<-hS];simp only[KK];omega
  have b1:bits .and .u64 S 2147483648=0:=by rw[<-hS];have:=Go.ConcN.st_flag v 0 (by omega) (by omega);simpa[KK] using this
  have b2:bits .and .u64 S 2147483647=0:=by rw[<-hS];have:=Go.ConcN.st_waiters v 0 (by omega) (by omega);simpa[KK] using this
  have c1:IntKind.i32.wrap (v:Int)=(v:Int):=by rw[IntKind.wrap_i32];omega
  have w1:IntKind.u64.wrap (S+1)=S+1:=by rw[IntKind.wrap_u64,<-hS];simp only[KK];omega
  have q3:decide ((v:Int)<0)=false:=decide_eq_false (by omega);have q4:decide (0<(v:Int))=true:=decide_eq_true (by omega);have q5:((v:Int) == 0)=false:=by simp;omega
  have q6:decide ((v:Int)=0)=false:=decide_eq_false (by omega);rw[hS] at hw;refine⟨_,stepG_load_atomic (v:=S) rfl rfl (by k_ne) rfl H.f_loadU64 (x_loadU64_n L) (x_loadU64_b L) (x_loadU64_x L) .u64 (x_loadU64_f L) rfl hw.cellSt,fun h0=>absurd h0 (by omega),fun _=>⟨80,?_⟩⟩;clear hw;walk_nrm;u_op qa hF
  u_c sE qa hF
  u_c stepG_ret' qa hF
  u_leave1 H.f_uLoad qa hF
  u_op qa hF
  u_c sE qa hF
  u_c sQ qa hF
  u_reg qa hF
  iterate 4 (u_op qa hF)
  u_c sE qa hF
  u_c sQ qa hF
  u_reg qa hF
  iterate 4 (u_op qa hF)
  u_c sE qa hF
  iterate 2 (u_c sQ qa hF)
  u_reg qa hF
  iterate 2 (u_op qa hF)
  u_c sE qa hF
  u_cond false qa hF
  u_c sK qa hF
  u_c sQ qa hF
  u_reg qa hF
  iterate 6 (u_op qa hF)
  u_call H.f_uCas (nm_uCas L) uCasFn qa hF
  u_c sQ qa hF
  u_reg qa hF
  u_op qa hF
  u_c sE qa hF
  u_c sQ qa hF
  u_reg qa hF
  iterate 5 (u_op qa hF)
  refine Goes.stop (fun wC h₂=>?_);replace hF:=qa hF h₂;clear h₂;refine⟨rfl,fun v' hv' hw=>⟨fun e=>?_,fun e=>?_⟩⟩
  ·subst e;rw[hS] at hw ⊢;refine⟨_,(stepG_cas_hit (v:=S) (n:=S+1) rfl rfl (by k_ne) rfl H.f_casU64 (x_casU64_n L) (x_casU64_b L) (x_casU64_x L) .u64 (x_casU64_f L) rfl rfl rfl hw.cellSt (hw.thaw 0)).trans (by rfl),80,?_⟩;replace hF:WgLive L.tWg Wg (wC.setCell (stA Wg) (.int .u64 (S+1))):=⟨_,_,hw.setSt _⟩;clear hw;walk_nrm;u_op qa hF
   u_c sE qa hF
   u_c stepG_ret' qa hF
   u_leave1 H.f_uCas qa hF
   u_c sE qa hF
   u_cond true qa hF
   iterate 2 (u_c sQ qa hF)
   u_reg qa hF
   iterate 4 (u_op qa hF)
   u_c sE qa hF
   u_cond true qa hF
   u_reg qa hF
   iterate 3 (u_op qa hF)
   u_conv H.underlying_tPU32 H.room_tU32 (WgLive.cell1 hF).choose_spec qa hF
   refine Goes.stop (fun wZ h₅=>?_);replace hF:=qa hF h₅;clear h₅;refine⟨rfl,_,stepG_markAt .write (by simp) rfl rfl (by k_ne) rfl H.f_raceWrite (x_raceWrite_n L) (x_raceWrite_b L) (x_raceWrite_x L) (x_raceWrite_f L) (ad:=(aT Wg 1)) (by simp[Act.eval]),40,?_⟩;walk_nrm;u_c sE qa hF
   u_c sQ qa hF
   u_reg qa hF
   u_op qa hF
   u_c sE qa hF
   iterate 2 (u_c sQ qa hF)
   u_reg qa hF
   iterate 4 (u_op qa hF)
   u_skip qa hF
   u_op qa hF
   u_c sE qa hF
   u_cond false qa hF
   u_c sK qa hF
   u_c sQ qa hF
   u_reg qa hF
   iterate 4 (u_op qa hF)
   refine Goes.stop (fun wD hN=>?_);replace hF:=qa hF hN;clear hN;refine⟨rfl,rfl,fun st hw=>stepG_semacquire_wait rfl rfl rfl H.f_semacquire (x_semacquire_n L) (x_semacquire_b L) (x_semacquire_x L) (x_semacquire_f L) (by simp[Act.eval,smA]) hw.cellSm,fun hf=>?_⟩;refine⟨_,(stepG_semacquire (n:=1) rfl rfl (by k_ne) rfl H.f_semacquire (x_semacquire_n L) (x_semacquire_b L) (x_semacquire_x L) (x_semacquire_f L) (by simp[Act.eval,smA]) hf.cellSm (by k_ne) (hf.thaw 1)).trans (by rfl),50,?_⟩;replace hF:WgLive L.tWg Wg (wD.setCell (smA Wg) (.int .u32 0)):=⟨_,_,hf.setSm 0⟩;clear hf;walk_nrm;u_c sE qa hF
   u_c sQ qa hF
   u_reg qa hF
   iterate 3 (u_op qa hF)
   u_call H.f_uLoad (nm_uLoad L) uLoadFn qa hF
   u_c sQ qa hF
   u_reg qa hF
   u_op qa hF
   u_c sE qa hF
   u_c sQ qa hF
   u_reg qa hF
   iterate 3 (u_op qa hF)
   refine Goes.stop (fun wE h₄=>?_);replace hF:=qa hF h₄;clear h₄;refine⟨rfl,fun hw=>⟨_,stepG_load_atomic (v:=0) rfl rfl (by k_ne) rfl H.f_loadU64 (x_loadU64_n L) (x_loadU64_b L) (x_loadU64_x L) .u64 (x_loadU64_f L) rfl hw.cellSt,50,?_⟩⟩;clear hw;walk_nrm;u_op qa hF
   u_c sE qa hF
   u_c stepG_ret' qa hF
   u_leave1 H.f_uLoad qa hF
   iterate 2 (u_op qa hF)
   u_c sE qa hF
   u_c sQ qa hF
   u_cond true qa hF
   u_c sQ qa hF
   u_reg qa hF
   refine Goes.stop (fun wZ h₅=>?_);replace hF:=qa hF h₅;clear h₅;refine⟨rfl,_,stepG_mark0 .enable (by simp) rfl rfl (by k_ne) rfl H.f_enable (x_enable_n L) (x_enable_b L) (x_enable_x L) (x_enable_f L),20,?_⟩;walk_nrm;u_c sE qa hF
   u_reg qa hF
   u_op qa hF
   u_conv H.underlying_tWgP H.room_tWg (WgLive.cell0 hF).choose_spec qa hF
   refine Goes.stop (fun wG h₆=>?_);replace hF:=qa hF h₆;clear h₆;refine⟨rfl,_,stepG_markAt .acquire (by simp) rfl rfl (by k_ne) rfl H.f_acquire (x_acquire_n L) (x_acquire_b L) (x_acquire_x L) (x_acquire_f L) (by simp[Act.eval,stA]),⟨mT+20,?_⟩⟩;clear hF;have hF:True:=trivial;walk_nrm;u_c sE (fun h _=>h) hF
   iterate 2 (u_c sQ (fun h _=>h) hF)
   u_reg (fun h _=>h) hF
   u_op (fun h _=>h) hF
   u_c sE (fun h _=>h) hF
   u_cond false (fun h _=>h) hF
   u_c sK (fun h _=>h) hF
   u_c stepG_ret' (fun h _=>h) hF
   u_leave0 H.f_wait (fun h _=>h) hF
   exact(hT _).mono (by omega)
  ·refine⟨_,stepG_cas_miss (v:=(v':Int) * KK) (old:=S) (n:=S+1) rfl rfl (by k_ne) rfl H.f_casU64 (x_casU64_n L) (x_casU64_b L) (x_casU64_x L) .u64 (x_casU64_f L) rfl rfl rfl hw.cellSt (hw.thaw 0) (by rw[<-hS];simp only[KK];omega),30,?_⟩;clear hw;walk_nrm;u_op qa hF
   u_c sE qa hF
   u_c stepG_ret' qa hF
   u_leave1 H.f_uCas qa hF
   u_c sE qa hF
   u_cond false qa hF
   u_c sK qa hF
   u_c stepG_inBlock qa hF
   u_c stepG_inLoop qa hF
   refine Goes.stop (fun wD hN=>?_);replace hF:=qa hF hN;exact⟨_,rfl,by simp,by simp,trivial,hF⟩
end
section
variable {P:Program}{L:WgLink}{Post:Value->World->Prop}{Wg:Nat}{Qs:List Fact}{O K:Nat->Prop}{J:World->Prop}{w:World}
 {bA:Frame}{aA:Act}{opsA:Array Oper}{iA:Nat}{restA:List Nat}{kA:List Item}{cs:List Frame}
set_option maxRecDepth 100000 in
theorem waitStart(H:WgLib P L)(w:World)(hF:WgLive L.tWg Wg w) :
 Goes P true (RO L.tWg Wg) DC0 (CD P L.tWg Wg (AnchWN L (fun _=>True) Wg (bA.at aA (.inRegion opsA (iA::restA)::kA)) cs)) 3
  (G ((base L.wait).at ⟨#[pT Wg 0]++Array.replicate 83 undef,[]⟩ [.code (body_wait L)]) (bA.at aA (.inRegion opsA (iA::restA)::kA)::cs)) w:=by
 lib_facts
 simp only[body_wait,waitFn,yv];walk_nrm;u_c sQ qa hF
 u_cond true qa hF
 u_reg qa hF
 refine Goes.stop (fun wB h₁=>?_);replace hF:=qa hF h₁;clear h₁;refine⟨rfl,_,stepG_mark0 .disable (by simp) rfl rfl (by k_ne) rfl H.f_disable (x_disable_n L) (x_disable_b L) (x_disable_x L) (x_disable_f L),3,?_⟩;walk_nrm;u_c sE qa hF
 u_c stepG_block qa hF
 u_c stepG_loop qa hF
 exact Goes.stop (fun wC h₂=>⟨_,rfl,by simp,by simp,trivial,qa hF h₂⟩)
theorem qhm(H:WgLib P L)(hJ:Stab O K J)(hW:¬(O Wg\/K Wg))(hlen:Qs.length<2147483648)
 (hQ:∀(i:Nat) (Q:Fact),Qs[i]?=some Q->∀(O':Nat->Prop) (w wB:World),(∀b,O' b\/K b->wB.heap[b]?=w.heap[b]?)->w.heap.size<=wB.heap.size->wB.eo=w.eo->Q O' w->Q O' wB)
 (k:∀w (Os:Nat->Nat->Prop),J w->(∀(i:Nat) (Q:Fact),Qs[i]?=some Q->Q (Os i) w)->(∀i,i<Qs.length->∀b,Os i b->¬O b/\¬K b/\b<w.heap.size)->(∀i k,i<Qs.length->k<Qs.length->i≠k->∀b,Os i b->¬Os k b)->
  Main P L.tWg Post Wg [] .free (fun b=>O b\/∃i,i<Qs.length/\Os i b) K (G (bA.at (aA.put ((opsA[iA]?).bind (·.dst)) (.tuple #[])) (.inRegion opsA restA::kA)) cs) w) (hj:J w) (hl:WgLive L.tWg Wg w) :
 Main P L.tWg Post Wg Qs .sp O K (G (Frame.enter P L.wait #[pT Wg 0] .normal) (bA.at aA (.inRegion opsA (iA::restA)::kA)::cs)) w:=by
 rw[enter_at (c:=body_wait L) _ H.f_wait rfl];refine qmm (Fin:=fun g _=>g=G (bA.at (aA.put ((opsA[iA]?).bind (·.dst)) (.tuple #[])) (.inRegion opsA restA::kA)) cs) hJ hW (waitRound (mT:=0) H (fun w=>fun wB _=>rfl)) hlen (fun g w m Os hj q1 q2 q3 hg=>?_) hj (waitStart H w hl);refine Main.of_goes (J:=fun w'=>J w'/\(∀(i:Nat) (Q:Fact),Qs[i]?=some Q->Q (Os i) w')/\w.heap.size<=w'.heap.size) (fun a b hs hz ho hx=>⟨hJ a b (fun c hc=>hs c (hc.imp .inl id)) hz ho hx.1,fun i Q hi=>hQ i Q hi (Os i) a b (fun c hc=>hs c (hc.imp (fun hc=>.inr ⟨i,(ym.1 hi).1,hc⟩) id)) hz ho (hx.2.1 i Q hi),yr hx.2.2 hz⟩) (fun _ _ _=>trivial) (fun g w' hx hS=>?_) m ⟨hj,q1,yb _⟩ hg;obtain rfl:=hS w' trivial;exact k w' Os hx.1 hx.2.1 (fun i hi b hb=>⟨(q2 i hi b hb).1,(q2 i hi b hb).2.1,yg (q2 i hi b hb).2.2 hx.2.2⟩) q3
end
end
end Go.Cr
