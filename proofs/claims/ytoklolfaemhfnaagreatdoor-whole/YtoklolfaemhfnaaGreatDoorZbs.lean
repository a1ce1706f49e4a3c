import Derived.Conc.WgGenN3
import Derived.Conc.Company
import Derived.Test.YtoklolfaemhfnaaGreatDoorZah
import Derived.Test.YtoklolfaemhfnaaGreatDoorZai
import Derived.Test.YtoklolfaemhfnaaGreatDoorZbm
set_option maxRecDepth 100000
set_option maxHeartbeats 8000000
namespace Go.Cr
section
open Go Go.Conc Go.RowKit Go.Conc.Lib Go.ConcR.Gen Go.ConcN.Gen
open Go.ConcN (WgLive)
open Go.ConcR (KK wgBlock WgAt stA smA rd wr mk DC0 WgAt.setSt WgAt.setSm)
section
variable {L:WgLink}{Wg:Nat}{Fin:Goroutine->World->Prop}
 {bA:Frame}{aA:Act}{opsA:Array Oper}{iA:Nat}{restA:List Nat}{kA:List Item}{cs:List Frame}{mT:Nat}
set_option maxRecDepth 100000 in
theorem addPos{P:Program}(H:WgLib P L)
 (hT:∀w,WgLive L.tWg Wg w->Goes P true (RO L.tWg Wg) DC0 Fin mT (G (bA.at (aA.put ((opsA[iA]?).bind (·.dst)) (.tuple #[])) (.inRegion opsA restA::kA)) cs) w)
 (w:World) (hF:WgLive L.tWg Wg w) :
 Goes P true (RO L.tWg Wg) DC0 (BD P L.tWg Wg Fin) 30 (G ((base L.add).at ⟨#[pT Wg 0,J 1]++Array.replicate 115 undef,[]⟩ [.code (body_add L)]) (bA.at aA (.inRegion opsA (iA::restA)::kA)::cs)) w:=by
 lib_facts
 simp only[body_add,addFn,yv];walk_nrm;u_c sQ qa hF
 u_cond true qa hF
 iterate 2 (u_c sQ qa hF)
 u_reg qa hF
 iterate 2 (u_op qa hF)
 u_c sE qa hF
 u_cond false qa hF
 u_c sK qa hF
 u_c sQ qa hF
 u_reg qa hF
 refine Goes.stop (fun wB h₁=>?_);replace hF:=qa hF h₁;clear h₁;refine⟨rfl,_,stepG_mark0 .disable (by simp) rfl rfl (by k_ne) rfl H.f_disable (x_disable_n L) (x_disable_b L) (x_disable_x L) (x_disable_f L),60,?_⟩;walk_nrm;u_c sE qa hF
 u_reg qa hF
 u_defer qa hF
 u_c sE qa hF
 u_c sQ qa hF
 u_reg qa hF
 u_op qa hF
 u_c sE qa hF
 iterate 2 (u_c sQ qa hF)
 u_reg qa hF
 u_bub qa hF
 u_c sE qa hF
 u_cond false qa hF
 u_c sK qa hF
 u_c sQ qa hF
 u_reg qa hF
 iterate 6 (u_op qa hF)
 u_call H.f_uAdd (nm_uAdd L) uAddFn qa hF
 u_c sQ qa hF
 u_reg qa hF
 u_op qa hF
 u_c sE qa hF
 u_c sQ qa hF
 u_reg qa hF
 iterate 4 (u_op qa hF)
 refine Goes.stop (fun wC h₂=>?_);replace hF:=qa hF h₂;clear h₂;refine⟨rfl,fun v hv hw=>?_⟩;rcases ybh v with rfl|hvp
 ·
  replace hw:WgAt L.tWg Wg wC 0 0:=by simpa using hw
  have z:(((0:Nat):Int)+1) * KK=KK:=by simp
  rw[z];have e0:IntKind.u64.wrap (0+4294967296)=KK:=by decide
  refine⟨_,(stepG_add_atomic rfl rfl (by k_ne) rfl H.f_addU64 (x_addU64_n L) (x_addU64_b L) (x_addU64_x L) .u64 (x_addU64_f L) rfl rfl hw.cellSt (hw.thaw 0)).trans (by rw[e0];rfl),fun _=>⟨120,?_⟩,fun h=>absurd rfl h⟩;replace hF:WgLive L.tWg Wg (wC.setCell (stA Wg) (.int .u64 KK)):=⟨_,_,hw.setSt _⟩;clear hw;simp only[KK] at hF ⊢;walk_nrm;u_op qa hF
  u_c sE qa hF
  u_c stepG_ret' qa hF
  u_leave1 H.f_uAdd qa hF
  u_op qa hF
  u_c sE qa hF
  iterate 2 (u_c sQ qa hF)
  u_reg qa hF
  iterate 4 (u_op qa hF)
  iterate 2 (u_skip qa hF)
  u_op qa hF
  u_c sE qa hF
  u_cond false qa hF
  u_c sK qa hF
  u_c sQ qa hF
  u_reg qa hF
  iterate 4 (u_op qa hF)
  u_c sE qa hF
  u_c sQ qa hF
  u_reg qa hF
  iterate 4 (u_op qa hF)
  u_c sE qa hF
  iterate 2 (u_c sQ qa hF)
  u_reg qa hF
  iterate 10 (u_op qa hF)
  u_c sE qa hF
  u_cond true qa hF
  u_reg qa hF
  iterate 3 (u_op qa hF)
  u_conv H.underlying_tPU32 H.room_tU32 (WgLive.cell1 hF).choose_spec qa hF
  refine Goes.stop (fun wD hN=>?_);replace hF:=qa hF hN;clear hN;refine⟨rfl,_,stepG_markAt .read (by simp) rfl rfl (by k_ne) rfl H.f_raceRead (x_raceRead_n L) (x_raceRead_b L) (x_raceRead_x L) (x_raceRead_f L) (ad:=(aT Wg 1)) (by simp[Act.eval]),80,?_⟩;walk_nrm;u_c sE qa hF
  iterate 2 (u_c sQ qa hF)
  u_reg qa hF
  iterate 2 (u_op qa hF)
  u_c sE qa hF
  u_cond false qa hF
  u_c sK qa hF
  iterate 2 (u_c sQ qa hF)
  u_reg qa hF
  iterate 3 (u_op qa hF)
  iterate 2 (u_skip qa hF)
  iterate 2 (u_op qa hF)
  iterate 4 (u_skip qa hF)
  u_op qa hF
  u_c sE qa hF
  u_cond false qa hF
  u_c sK qa hF
  iterate 2 (u_c sQ qa hF)
  u_reg qa hF
  iterate 3 (u_op qa hF)
  iterate 2 (u_skip qa hF)
  u_op qa hF
  u_c sE qa hF
  u_cond true qa hF
  u_c stepG_ret' qa hF
  refine Goes.stop (fun wE h₄=>?_);replace hF:=qa hF h₄;clear h₄;refine⟨rfl,_,stepG_unwind_entry (v:=.tuple #[]) (evs:=#[mk .enable]) rfl H.f_enable (x_enable_n L) (x_enable_b L) (x_enable_x L) (x_enable_f L) (by simp[Extern.Race.none_]) (by simp[mk]) (by simp[mk]),mT+1,?_⟩;u_leave0 H.f_add qa hF
  exact hT _ hF
 ·
  obtain⟨V,hV⟩:∃V:Int,V=(v:Int)+1:=⟨_,rfl⟩;obtain⟨S,hS⟩:∃S:Int,S=V * KK:=⟨_,rfl⟩;have eS:IntKind.u64.wrap ((v:Int) * KK+4294967296)=S:=by rw[IntKind.wrap_u64,hS,hV];simp only[KK];omega
  rw[<-hV,<-hS];have a1:S / 4294967296=V:=by rw[hS];simp only[KK];omega
  have b1:bits .and .u64 S 2147483648=0:=by rw[hS,hV];have:=Go.ConcN.st_flag (v+1) 0 (by omega) (by omega);simpa[KK] using this
  have b2:bits .and .u64 S 2147483647=0:=by rw[hS,hV];have:=Go.ConcN.st_waiters (v+1) 0 (by omega) (by omega);simpa[KK] using this
  have c1:IntKind.i32.wrap V=V:=by rw[IntKind.wrap_i32];omega
  have hV1:1<V:=by omega
  have hV2:V<2147483648:=by omega
  have q1:(V == 1)=false:=by simp;omega
  have q2:decide (V=1)=false:=decide_eq_false (by omega);have q3:decide (V<0)=false:=decide_eq_false (by omega);have q4:decide (0<V)=true:=decide_eq_true (by omega);have q5:(V == 0)=false:=by simp;omega
  have q6:decide (V=0)=false:=decide_eq_false (by omega);refine⟨_,(stepG_add_atomic rfl rfl (by k_ne) rfl H.f_addU64 (x_addU64_n L) (x_addU64_b L) (x_addU64_x L) .u64 (x_addU64_f L) rfl rfl hw.cellSt (hw.thaw 0)).trans (by rw[eS];rfl),fun e=>by omega,fun _=>⟨150,?_⟩⟩;replace hF:WgLive L.tWg Wg (wC.setCell (stA Wg) (.int .u64 S)):=⟨_,_,hw.setSt _⟩;clear hw hS hV eS;walk_nrm;u_op qa hF
  u_c sE qa hF
  u_c stepG_ret' qa hF
  u_leave1 H.f_uAdd qa hF
  u_op qa hF
  u_c sE qa hF
  iterate 2 (u_c sQ qa hF)
  u_reg qa hF
  iterate 4 (u_op qa hF)
  iterate 2 (u_skip qa hF)
  u_op qa hF
  u_c sE qa hF
  u_cond false qa hF
  u_c sK qa hF
  u_c sQ qa hF
  u_reg qa hF
  iterate 4 (u_op qa hF)
  u_c sE qa hF
  u_c sQ qa hF
  u_reg qa hF
  iterate 4 (u_op qa hF)
  u_c sE qa hF
  iterate 2 (u_c sQ qa hF)
  u_reg qa hF
  iterate 10 (u_op qa hF)
  u_c sE qa hF
  u_cond false qa hF
  u_c sK qa hF
  iterate 2 (u_c sQ qa hF)
  u_reg qa hF
  iterate 2 (u_op qa hF)
  u_c sE qa hF
  u_cond false qa hF
  u_c sK qa hF
  iterate 2 (u_c sQ qa hF)
  u_reg qa hF
  iterate 3 (u_op qa hF)
  iterate 2 (u_skip qa hF)
  iterate 2 (u_op qa hF)
  iterate 4 (u_skip qa hF)
  u_op qa hF
  u_c sE qa hF
  u_cond false qa hF
  u_c sK qa hF
  iterate 2 (u_c sQ qa hF)
  u_reg qa hF
  iterate 3 (u_op qa hF)
  iterate 2 (u_skip qa hF)
  u_op qa hF
  u_c sE qa hF
  u_cond true qa hF
  u_c stepG_ret' qa hF
  refine Goes.stop (fun wE h₄=>?_);replace hF:=qa hF h₄;clear h₄;refine⟨rfl,_,stepG_unwind_entry (v:=.tuple #[]) (evs:=#[mk .enable]) rfl H.f_enable (x_enable_n L) (x_enable_b L) (x_enable_x L) (x_enable_f L) (by simp[Extern.Race.none_]) (by simp[mk]) (by simp[mk]),mT+1,?_⟩;u_leave0 H.f_add qa hF
  exact hT _ hF
end
theorem qhl{ty:TypeId}{Wg:Nat}{w w':World}(hl:WgLive ty Wg w)(e:w'.heap[Wg]?=w.heap[Wg]?):WgLive ty Wg w':=let ⟨st,sm,h⟩:=hl;⟨st,sm,e.trans h⟩
section
variable {P:Program}{L:WgLink}{Post:Value->World->Prop}{Wg:Nat}{Qs:List Fact}{O K:Nat->Prop}{J:World->Prop}{w:World}
 {bA:Frame}{aA:Act}{opsA:Array Oper}{iA:Nat}{restA:List Nat}{kA:List Item}{cs:List Frame}
theorem qiq(H:WgLib P L)(hJ:Stab O K J)(hW:¬(O Wg\/K Wg))(hlen:Qs.length<2147483647)
 (k:∀w,J w->WgLive L.tWg Wg w->Main P L.tWg Post Wg Qs .go O K (G (bA.at (aA.put ((opsA[iA]?).bind (·.dst)) (.tuple #[])) (.inRegion opsA restA::kA)) cs) w) (hj:J w) (hl:WgLive L.tWg Wg w) :
 Main P L.tWg Post Wg Qs .sp O K (G (Frame.enter P L.add #[pT Wg 0,.int .i64 1] .normal) (bA.at aA (.inRegion opsA (iA::restA)::kA)::cs)) w:=by
 rw[enter_at (c:=body_add L) _ H.f_add rfl];refine qoh hJ hW hlen (fun g w hj hS=>?_) hj (addPos (mT:=0) (Fin:=fun g w=>g=G (bA.at (aA.put ((opsA[iA]?).bind (·.dst)) (.tuple #[])) (.inRegion opsA restA::kA)) cs/\WgLive L.tWg Wg w) H (fun w hl=>fun wB h₁=>⟨rfl,h₁ hl⟩) w hl);obtain⟨rfl,hl⟩:=hS w (.refl _ _ _);exact k w hj hl
theorem qj4{ty:TypeId}{b:Frame}{a:Act}{k:List Item}{ops:Array Oper}{i:Nat}{rest:List Nat}{o:Oper}{d:Deferred}{f:Fn}{c:Array Value}(ho:ops[i]?=some o)(hw:Region.wanted o (yielded ops a.tmps)=true)(hk:b.kind≠.early)
 (hr:∀w',(execOp a.eval o).run P w'=.ok (.spawn d) w') (he:∀w',(execOp a.eval o).events P w' #[]=#[]) (hd:d.target=.fn f c) (Q:Fact) (Bs R:Nat->Prop) (hlen:Qs.length<2147483647) (hB:∀b,Bs b->O b) (hR:∀b,R b->O b\/K b) (hBR:∀b,Bs b->¬R b)
 (hc:∀wB,Go.Pm.Rely O K (Al ty Wg .go) w wB->∃T,Wk P ty Wg Q R T 7 0 Bs (born P d) wB)
 (h:∀wB,Go.Pm.Rely O K (Al ty Wg .go) w wB->Main P ty Post Wg (Qs++[Q]) .sp (fun b=>O b/\¬Bs b/\¬R b) (fun b=>K b\/R b) (G (b.at (a.put o.dst undef) (.inRegion ops rest::k)) cs) wB) :
 Main P ty Post Wg Qs .go O K (G (b.at a (.inRegion ops (i::rest)::k)) cs) w:=by
 have hst:∀w',stepG P true (G (b.at a (.inRegion ops (i::rest)::k)) cs) w'=.spawn (G (b.at (a.put o.dst undef) (.inRegion ops rest::k)) cs) (born P d) w' #[]:=fun w'=>by
  rw[stepG_spawn ho hw hk (hr w') hd];unfold listed;rw[he w',seen_none]
 refine .go Q Bs R rfl hlen hB hR hBR (fun wB _=>⟨_,_,hst wB⟩) (fun wB g' child w' es h₁ e=>?_) fun wB g' child w' es h₁ e=>?_
 ·rw[hst wB] at e;injection e with _ e2 _ _;subst e2;exact hc wB h₁
 ·rw[hst wB] at e;injection e with e1 _ e3 _;subst e1 e3;exact h wB h₁
end
end
end Go.Cr
