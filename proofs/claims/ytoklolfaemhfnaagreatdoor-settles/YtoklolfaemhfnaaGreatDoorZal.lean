import Derived.Conc.WgGenN3
import Derived.Conc.Company
import Derived.Test.YtoklolfaemhfnaaGreatDoorZab
import Derived.Test.YtoklolfaemhfnaaGreatDoorZak
set_option maxRecDepth 100000
set_option maxHeartbeats 0
set_option linter.defProp false
namespace Go.Cr
section
open Go Go.Conc Go.RowKit Go.Conc.Lib Go.ConcR.Gen Go.ConcN.Gen
open Go.ConcN (WgLive)
open Go.ConcR (KK wgBlock WgAt stA smA rd wr mk DC0 WgAt.setSt WgAt.setSm)
section
variable {L:WgLink}{Wg:Nat}{Fin:Ϛ->Ξ}
 {be:Frame}{aJ:Act}{opsA:Array Oper}{cJ:Nat}{restA:Ϙ}{kK:List Item}{cs:List Frame}{mT:Nat}
set_option maxRecDepth 100000 in
def Hv{P:ϛ}(H:WgLib P L)(m:∀w,WgLive L.tWg Wg w->Goes P true (RO L.tWg Wg) DC0 Fin mT (G (be.at (aJ.put ((opsA[cJ]?).bind (·.dst)) ϳ) (.inRegion opsA restA::kK)) cs) w)(w:Δ)(a:WgLive L.tWg Wg w):Goes P true (RO L.tWg Wg) DC0 (BD P L.tWg Wg Fin) 30 (G ((base L.add).at ⟨#[pT Wg 0,J 1]++Array.replicate 115 undef,[]⟩ [.code (body_add L)]) (be.at aJ (.inRegion opsA (cJ::restA)::kK)::cs)) w:=by
 lib_facts
 simp only[body_add,addFn,yv];walk_nrm;u_c sQ aa a;u_cond true aa a;iterate 2 (u_c sQ aa a)
 u_reg aa a
 iterate 2 (u_op aa a)
 u_c sE aa a
 u_cond false aa a
 u_c sK aa a
 u_c sQ aa a
 u_reg aa a
 refine Goes.stop λn i=>?_;replace a:=aa a i;refine⟨rfl,_,stepG_mark0 _ ς rfl rfl (by k_ne) rfl H.f_disable (x_disable_n L) (x_disable_b L) (x_disable_x L) (x_disable_f L),60,?_⟩;u_c sE aa a;u_reg aa a;u_defer aa a;u_c sE aa a
 u_c sQ aa a
 u_reg aa a
 u_op aa a
 u_c sE aa a
 iterate 2 (u_c sQ aa a)
 u_reg aa a
 u_bub aa a
 u_c sE aa a
 u_cond false aa a
 u_c sK aa a
 u_c sQ aa a
 u_reg aa a
 iterate 6 (u_op aa a)
 u_call H.f_uAdd (nm_uAdd L) uAddFn aa a
 u_c sQ aa a
 u_reg aa a
 u_op aa a
 u_c sE aa a
 u_c sQ aa a
 u_reg aa a
 iterate 4 (u_op aa a)
 refine Goes.stop λc p=>?_;refine⟨rfl,λv y d=>?_⟩;rcases Lg v with rfl|s
 ·
  replace d:WgAt L.tWg Wg c 0 0:=ϰ d;refine⟨_,(stepG_add_atomic rfl rfl (by k_ne) rfl H.f_addU64 (x_addU64_n L) (x_addU64_b L) (x_addU64_x L) .u64 (x_addU64_f L) rfl rfl d.cellSt (d.thaw 0)).trans (by rfl),λ_=>⟨120,?_⟩,λh=>absurd rfl h⟩;replace a:WgLive L.tWg Wg (c.setCell (stA Wg) (.int .u64 KK)):=⟨_,_,d.setSt _⟩;u_op aa a;u_c sE aa a;u_c stepG_ret' aa a;u_leave1 H.f_uAdd aa a
  u_op aa a
  u_c sE aa a
  iterate 2 (u_c sQ aa a)
  u_reg aa a
  iterate 4 (u_op aa a)
  iterate 2 (u_skip aa a)
  u_op aa a
  u_c sE aa a
  u_cond false aa a
  u_c sK aa a
  u_c sQ aa a
  u_reg aa a
  iterate 4 (u_op aa a)
  u_c sE aa a
  u_c sQ aa a
  u_reg aa a
  iterate 4 (u_op aa a)
  u_c sE aa a
  iterate 2 (u_c sQ aa a)
  u_reg aa a
  iterate 10 (u_op aa a)
  u_c sE aa a
  u_cond true aa a
  u_reg aa a
  iterate 3 (u_op aa a)
  u_conv H.underlying_tPU32 H.room_tU32 (WgLive.cell1 a).choose_spec aa a
  refine Goes.stop λl f=>?_;replace a:=aa a f;clear f;refine⟨rfl,_,stepG_markAt _ ς rfl rfl (by k_ne) rfl H.f_raceRead (x_raceRead_n L) (x_raceRead_b L) (x_raceRead_x L) (x_raceRead_f L) (ad:=(aT Wg 1)) (by simp[Act.eval]),80,?_⟩;walk_nrm;u_c sE aa a;iterate 2 (u_c sQ aa a)
  u_reg aa a
  iterate 2 (u_op aa a)
  u_c sE aa a
  u_cond false aa a
  u_c sK aa a
  iterate 2 (u_c sQ aa a)
  u_reg aa a
  iterate 3 (u_op aa a)
  iterate 2 (u_skip aa a)
  iterate 2 (u_op aa a)
  iterate 4 (u_skip aa a)
  u_op aa a
  u_c sE aa a
  u_cond false aa a
  u_c sK aa a
  iterate 2 (u_c sQ aa a)
  u_reg aa a
  iterate 3 (u_op aa a)
  iterate 2 (u_skip aa a)
  u_op aa a
  u_c sE aa a
  u_cond true aa a
  u_c stepG_ret' aa a
  refine Goes.stop λj b=>?_;replace a:=aa a b;clear b;refine⟨rfl,_,stepG_unwind_entry (v:=.tuple #[]) (evs:=#[mk .enable]) rfl H.f_enable (x_enable_n L) (x_enable_b L) (x_enable_x L) (x_enable_f L) (by simp[Extern.Race.none_]) (by simp[mk]) (by simp[mk]),mT+1,?_⟩;u_leave0 H.f_add aa a;exact m _ a
 ·
  obtain⟨V,k⟩:∃V:Int,V=(v:Int)+1:=⟨_,rfl⟩;obtain⟨S,g⟩:∃S:Int,S=V*KK:=⟨_,rfl⟩;have o:IntKind.u64.wrap ((v:Int)*KK+4294967296)=S:=by rw[IntKind.wrap_u64,g,k];simp only[KK];lia
  rw[<-k,<-g];have F:S/4294967296=V:=by rw[g];simp only[KK];lia
  have u:bits .and .u64 S 2147483648=0:=by rw[g,k];have:=ConcN.st_flag (v+1) 0 ω ω;simpa[KK]using this
  have t:bits .and .u64 S 2147483647=0:=by rw[g,k];have:=ConcN.st_waiters (v+1) 0 ω ω;simpa[KK]using this
  have A:IntKind.i32.wrap V=V:=by rw[IntKind.wrap_i32];lia
  have r:1<V:=ω;have q:V<2147483648:=ω;have B:(V==1)=false:=by simp;lia
  have D:decide (V=1)=false:=decide_eq_false ω;have C:decide (V<0)=false:=decide_eq_false ω;have x:decide (0<V)=true:=decide_eq_true ω;have z:(V==0)=false:=by simp;lia
  have E:decide (V=0)=false:=decide_eq_false ω;refine⟨_,(stepG_add_atomic rfl rfl (by k_ne) rfl H.f_addU64 (x_addU64_n L) (x_addU64_b L) (x_addU64_x L) .u64 (x_addU64_f L) rfl rfl d.cellSt (d.thaw 0)).trans (by rw[o];rfl),λe=>ω,λ_=>⟨150,?_⟩⟩;replace a:WgLive L.tWg Wg (c.setCell (stA Wg) (.int .u64 S)):=⟨_,_,d.setSt _⟩;clear d g k o;walk_nrm;u_op aa a;u_c sE aa a;u_c stepG_ret' aa a;u_leave1 H.f_uAdd aa a
  u_op aa a
  u_c sE aa a
  iterate 2 (u_c sQ aa a)
  u_reg aa a
  iterate 4 (u_op aa a)
  iterate 2 (u_skip aa a)
  u_op aa a
  u_c sE aa a
  u_cond false aa a
  u_c sK aa a
  u_c sQ aa a
  u_reg aa a
  iterate 4 (u_op aa a)
  u_c sE aa a
  u_c sQ aa a
  u_reg aa a
  iterate 4 (u_op aa a)
  u_c sE aa a
  iterate 2 (u_c sQ aa a)
  u_reg aa a
  iterate 10 (u_op aa a)
  u_c sE aa a
  u_cond false aa a
  u_c sK aa a
  iterate 2 (u_c sQ aa a)
  u_reg aa a
  iterate 2 (u_op aa a)
  u_c sE aa a
  u_cond false aa a
  u_c sK aa a
  iterate 2 (u_c sQ aa a)
  u_reg aa a
  iterate 3 (u_op aa a)
  iterate 2 (u_skip aa a)
  iterate 2 (u_op aa a)
  iterate 4 (u_skip aa a)
  u_op aa a
  u_c sE aa a
  u_cond false aa a
  u_c sK aa a
  iterate 2 (u_c sQ aa a)
  u_reg aa a
  iterate 3 (u_op aa a)
  iterate 2 (u_skip aa a)
  u_op aa a
  u_c sE aa a
  u_cond true aa a
  u_c stepG_ret' aa a
  refine Goes.stop λj b=>?_;replace a:=aa a b;clear b;refine⟨rfl,_,stepG_unwind_entry (v:=.tuple #[]) (evs:=#[mk .enable]) rfl H.f_enable (x_enable_n L) (x_enable_b L) (x_enable_x L) (x_enable_f L) (by simp[Extern.Race.none_]) (by simp[mk]) (by simp[mk]),mT+1,?_⟩;u_leave0 H.f_add aa a;exact m _ a
end
def ow{ty:ϟ}{Wg:Nat}{w w':Δ}(hl:WgLive ty Wg w)(e:w'.heap[Wg]?=w.heap[Wg]?):WgLive ty Wg w':=let ⟨st,sm,h⟩:=hl;⟨st,sm,e.trans h⟩
section
variable {P:ϛ}{L:WgLink}{Post:Θ->Ξ}{Wg:Nat}{Qs:List bE}{O K:ϑ}{J:Ξ}{w:Δ}
 {be:Frame}{aJ:Act}{opsA:Array Oper}{cJ:Nat}{restA:Ϙ}{kK:List Item}{cs:List Frame}
def so(H:WgLib P L)(hJ:qq O K J)(hW:¬(O Wg\/K Wg))(hlen:Qs.length<2147483647)(k:∀w,J w->WgLive L.tWg Wg w->aC P L.tWg Post Wg Qs .go O K (G (be.at (aJ.put ((opsA[cJ]?).bind (·.dst)) ϳ) (.inRegion opsA restA::kK)) cs) w)(hj:J w)(hl:WgLive L.tWg Wg w):aC P L.tWg Post Wg Qs .sp O K (G (Frame.enter P L.add #[pT Wg 0,ϲ 1] .normal) (be.at aJ (.inRegion opsA (cJ::restA)::kK)::cs)) w:=by
 rw[enter_at (c:=body_add L) _ H.f_add rfl];refine C5 hJ hW hlen (λg w hj hS=>?_) hj (Hv (mT:=0) (Fin:=λg w=>g=G (be.at (aJ.put ((opsA[cJ]?).bind (·.dst)) ϳ) (.inRegion opsA restA::kK)) cs/\WgLive L.tWg Wg w) H (λw hl=>λwL bm=>⟨rfl,bm hl⟩) w hl);obtain⟨rfl,hl⟩:=hS w (.a _ _ _);exact k w hj hl
def uk{ty:ϟ}{b:Frame}{a:Act}{k:List Item}{ops:Array Oper}{i:Nat}{rest:Ϙ}{o:Oper}{d:Deferred}{f:Fn}{c:ϡ}(ho:ops[i]?=some o)(hw:Region.wanted o (yielded ops a.tmps)=true)(hk:b.kind≠.early)(hr:∀w',(execOp a.eval o).run P w'=.ok (.spawn d) w')(he:∀w',(execOp a.eval o).events P w' #[]=#[])(hd:d.target=.fn f c)(Q:bE)(Bs R:ϑ)(hlen:Qs.length<2147483647)(hB:∀b,Bs b->O b)(hR:∀b,R b->O b\/K b)(hBR:∀b,Bs b->¬R b)(hc:∀wL,Pm.Rely O K (Al ty Wg .go) w wL->∃T,Wk P ty Wg Q R T 7 0 Bs (born P d) wL)(h:∀wL,Pm.Rely O K (Al ty Wg .go) w wL->aC P ty Post Wg (Qs++[Q]) .sp (λb=>O b/\¬Bs b/\¬R b) (λb=>K b\/R b) (G (b.at (a.put o.dst undef) (.inRegion ops rest::k)) cs) wL):aC P ty Post Wg Qs .go O K (G (b.at a (.inRegion ops (i::rest)::k)) cs) w:=by
 have hst:∀w',stepG P true (G (b.at a (.inRegion ops (i::rest)::k)) cs) w'=.spawn (G (b.at (a.put o.dst undef) (.inRegion ops rest::k)) cs) (born P d) w' #[]:=λw'=>by rw[stepG_spawn ho hw hk (hr w') hd];unfold listed;rw[he w',seen_none]
 refine .go Q Bs R rfl hlen hB hR hBR (λwL _=>⟨_,_,hst wL⟩) (λwL g' child w' es bm e=>?_) λwL g' child w' es bm e=>?_;rw[hst wL]at e;injection e with _ e2 _ _;subst e2;exact hc wL bm;rw[hst wL]at e;injection e with e1 _ e3 _;subst e1 e3;exact h wL bm
end
section
variable {L:WgLink}{Wg:Nat}{Fin:Ϛ->Ξ}
 {be:Frame}{aJ:Act}{opsA:Array Oper}{cJ:Nat}{restA:Ϙ}{kK:List Item}{cs:List Frame}{mT:Nat}
set_option maxRecDepth 100000 in
def AV{P:ϛ}(H:WgLib P L)(hT:∀w,Goes P true RT DC0 Fin mT (G (be.at (aJ.put ((opsA[cJ]?).bind (·.dst)) ϳ) (.inRegion opsA restA::kK)) cs) w)(g:Ϛ)(w:Δ)(h:AnchWN L (λ_=>True) Wg (be.at aJ (.inRegion opsA (cJ::restA)::kK)) cs g w):∃m,Goes P true (RO L.tWg Wg) DC0 (C1 P L.tWg Wg Fin (AnchWN L (λ_=>True) Wg (be.at aJ (.inRegion opsA (cJ::restA)::kK)) cs)) m g w:=by
 lib_facts
 obtain⟨T,rfl,hT84,t0,_,hF⟩:=h;obtain⟨v0,v1,v2,v3,v4,v5,v6,v7,v8,v9,v10,v11,v12,v13,v14,v15,v16,v17,v18,v19,v20,v21,v22,v23,v24,v25,v26,v27,v28,v29,v30,v31,v32,v33,v34,v35,v36,v37,v38,v39,v40,v41,v42,v43,v44,v45,v46,v47,v48,v49,v50,v51,v52,v53,v54,v55,v56,v57,v58,v59,v60,v61,v62,v63,v64,v65,v66,v67,v68,v69,v70,v71,v72,v73,v74,v75,v76,v77,v78,v79,v80,v81,v82,v83,rfl⟩:=array84 T hT84;simp only[ya7,AH,yA]at t0;subst t0;refine⟨40,?_⟩;simp only[L7,body_wait,waitFn,yv];u_c stepG_block aa hF;u_c sQ aa hF;u_reg aa hF;iterate 3 (u_op aa hF)
 u_call H.f_uLoad (nm_uLoad L) uLoadFn aa hF
 u_c sQ aa hF
 u_reg aa hF
 u_op aa hF
 u_c sE aa hF
 u_c sQ aa hF
 u_reg aa hF
 iterate 3 (u_op aa hF)
 refine Goes.stop λwL bm=>?_;replace hF:=aa hF bm;clear bm;refine⟨rfl,λv hv hw=>?_⟩;rcases Lg v with rfl|hvp
 .replace hw:WgAt L.tWg Wg wL 0 0:=ϰ hw;refine⟨_,stepG_load_atomic (v:=0) rfl rfl (by k_ne) rfl H.f_loadU64 (x_loadU64_n L) (x_loadU64_b L) (x_loadU64_x L) .u64 (x_loadU64_f L) rfl hw.cellSt,λ_=>⟨70,?_⟩,λh=>absurd rfl h⟩;clear hw;walk_nrm;u_op aa hF;u_c sE aa hF;u_c stepG_ret' aa hF;u_leave1 H.f_uLoad aa hF
  u_op aa hF
  u_c sE aa hF
  u_c sQ aa hF
  u_reg aa hF
  iterate 4 (u_op aa hF)
  u_c sE aa hF
  u_c sQ aa hF
  u_reg aa hF
  iterate 4 (u_op aa hF)
  u_c sE aa hF
  iterate 2 (u_c sQ aa hF)
  u_reg aa hF
  iterate 2 (u_op aa hF)
  u_c sE aa hF
  iterate 2 (u_cond true aa hF;u_c sQ aa hF)
  u_reg aa hF
  refine Goes.stop λeI ch=>?_;replace hF:=aa hF ch;clear ch;refine⟨rfl,_,stepG_mark0 .enable ς rfl rfl (by k_ne) rfl H.f_enable (x_enable_n L) (x_enable_b L) (x_enable_x L) (x_enable_f L),20,?_⟩;walk_nrm;u_c sE aa hF;u_reg aa hF;u_op aa hF;u_conv H.underlying_tWgP H.room_tWg (WgLive.cell0 hF).choose_spec aa hF
  refine Goes.stop λeJ ci=>?_;replace hF:=aa hF ci;clear ci;refine⟨rfl,_,stepG_markAt .acquire ς rfl rfl (by k_ne) rfl H.f_acquire (x_acquire_n L) (x_acquire_b L) (x_acquire_x L) (x_acquire_f L) (by simp[Act.eval,stA]),⟨mT+20,?_⟩⟩;clear hF;have hF:True:=trivial;walk_nrm;u_c sE (λh _=>h) hF;iterate 2 (u_c sQ (λh _=>h) hF)
  u_reg (λh _=>h) hF
  iterate 8 (u_op (λh _=>h) hF)
  iterate 2 (u_skip (λh _=>h) hF)
  u_op (λh _=>h) hF
  u_c sE (λh _=>h) hF
  u_cond false (λh _=>h) hF
  u_c sK (λh _=>h) hF
  u_c stepG_ret' (λh _=>h) hF
  u_leave0 H.f_wait (λh _=>h) hF
  exact(hT _).mono ω
 obtain⟨S,hS⟩:∃S:Int,(v:Int)*KK=S:=⟨_,rfl⟩;have a1:S/4294967296=(v:Int):=by rw[<-hS];simp only[KK];lia
 have b1:bits .and .u64 S 2147483648=0:=by rw[<-hS];have:=ConcN.st_flag v 0 ω ω;simpa[KK]using this
 have b2:bits .and .u64 S 2147483647=0:=by rw[<-hS];have:=ConcN.st_waiters v 0 ω ω;simpa[KK]using this
 have c1:IntKind.i32.wrap (v:Int)=(v:Int):=by rw[IntKind.wrap_i32];lia
 have w1:IntKind.u64.wrap (S+1)=S+1:=by rw[IntKind.wrap_u64,<-hS];simp only[KK];lia
 have q3:decide ((v:Int)<0)=false:=decide_eq_false ω;have q4:decide (0<(v:Int))=true:=decide_eq_true ω;have q5:((v:Int)==0)=false:=by simp;lia
 have q6:decide ((v:Int)=0)=false:=decide_eq_false ω;rw[hS]at hw;refine⟨_,stepG_load_atomic (v:=S) rfl rfl (by k_ne) rfl H.f_loadU64 (x_loadU64_n L) (x_loadU64_b L) (x_loadU64_x L) .u64 (x_loadU64_f L) rfl hw.cellSt,λh0=>absurd h0 ω,λ_=>⟨80,?_⟩⟩;clear hw;walk_nrm;u_op aa hF;u_c sE aa hF;u_c stepG_ret' aa hF;u_leave1 H.f_uLoad aa hF
 u_op aa hF
 u_c sE aa hF
 u_c sQ aa hF
 u_reg aa hF
 iterate 4 (u_op aa hF)
 u_c sE aa hF
 u_c sQ aa hF
 u_reg aa hF
 iterate 4 (u_op aa hF)
 u_c sE aa hF
 iterate 2 (u_c sQ aa hF)
 u_reg aa hF
 iterate 2 (u_op aa hF)
 u_c sE aa hF
 u_cond false aa hF
 u_c sK aa hF
 u_c sQ aa hF
 u_reg aa hF
 iterate 6 (u_op aa hF)
 u_call H.f_uCas (nm_uCas L) uCasFn aa hF
 u_c sQ aa hF
 u_reg aa hF
 u_op aa hF
 u_c sE aa hF
 u_c sQ aa hF
 u_reg aa hF
 iterate 5 (u_op aa hF)
 refine Goes.stop λwg bv=>?_;replace hF:=aa hF bv;clear bv;refine⟨rfl,λv' hv' hw=>⟨λe=>?_,λe=>?_⟩⟩
 .subst e;rw[hS]at hw|-;refine⟨_,(stepG_cas_hit (v:=S) (n:=S+1) rfl rfl (by k_ne) rfl H.f_casU64 (x_casU64_n L) (x_casU64_b L) (x_casU64_x L) .u64 (x_casU64_f L) rfl rfl rfl hw.cellSt (hw.thaw 0)).trans (by rfl),80,?_⟩;replace hF:WgLive L.tWg Wg (wg.setCell (stA Wg) (.int .u64 (S+1))):=⟨_,_,hw.setSt _⟩;clear hw;walk_nrm;u_op aa hF;u_c sE aa hF;u_c stepG_ret' aa hF;u_leave1 H.f_uCas aa hF
  u_c sE aa hF
  u_cond true aa hF
  iterate 2 (u_c sQ aa hF)
  u_reg aa hF
  iterate 4 (u_op aa hF)
  u_c sE aa hF
  u_cond true aa hF
  u_reg aa hF
  iterate 3 (u_op aa hF)
  u_conv H.underlying_tPU32 H.room_tU32 (WgLive.cell1 hF).choose_spec aa hF
  refine Goes.stop λeI ch=>?_;replace hF:=aa hF ch;clear ch;refine⟨rfl,_,stepG_markAt .write ς rfl rfl (by k_ne) rfl H.f_raceWrite (x_raceWrite_n L) (x_raceWrite_b L) (x_raceWrite_x L) (x_raceWrite_f L) (ad:=(aT Wg 1)) (by simp[Act.eval]),40,?_⟩;walk_nrm;u_c sE aa hF;u_c sQ aa hF;u_reg aa hF;u_op aa hF
  u_c sE aa hF
  iterate 2 (u_c sQ aa hF)
  u_reg aa hF
  iterate 4 (u_op aa hF)
  u_skip aa hF
  u_op aa hF
  u_c sE aa hF
  u_cond false aa hF
  u_c sK aa hF
  u_c sQ aa hF
  u_reg aa hF
  iterate 4 (u_op aa hF)
  refine Goes.stop λdL bJ=>?_;replace hF:=aa hF bJ;clear bJ;refine⟨rfl,rfl,λst hw=>stepG_semacquire_wait rfl rfl rfl H.f_semacquire (x_semacquire_n L) (x_semacquire_b L) (x_semacquire_x L) (x_semacquire_f L) (by simp[Act.eval,smA]) hw.cellSm,λhf=>?_⟩;refine⟨_,(stepG_semacquire (n:=1) rfl rfl (by k_ne) rfl H.f_semacquire (x_semacquire_n L) (x_semacquire_b L) (x_semacquire_x L) (x_semacquire_f L) (by simp[Act.eval,smA]) hf.cellSm (by k_ne) (hf.thaw 1)).trans (by rfl),50,?_⟩;replace hF:WgLive L.tWg Wg (dL.setCell (smA Wg) (.int .u32 0)):=⟨_,_,hf.setSm 0⟩;clear hf;walk_nrm;u_c sE aa hF;u_c sQ aa hF;u_reg aa hF;iterate 3 (u_op aa hF)
  u_call H.f_uLoad (nm_uLoad L) uLoadFn aa hF
  u_c sQ aa hF
  u_reg aa hF
  u_op aa hF
  u_c sE aa hF
  u_c sQ aa hF
  u_reg aa hF
  iterate 3 (u_op aa hF)
  refine Goes.stop λeG ce=>?_;replace hF:=aa hF ce;clear ce;refine⟨rfl,λhw=>⟨_,stepG_load_atomic (v:=0) rfl rfl (by k_ne) rfl H.f_loadU64 (x_loadU64_n L) (x_loadU64_b L) (x_loadU64_x L) .u64 (x_loadU64_f L) rfl hw.cellSt,50,?_⟩⟩;clear hw;walk_nrm;u_op aa hF;u_c sE aa hF;u_c stepG_ret' aa hF;u_leave1 H.f_uLoad aa hF
  iterate 2 (u_op aa hF)
  u_c sE aa hF
  u_c sQ aa hF
  u_cond true aa hF
  u_c sQ aa hF
  u_reg aa hF
  refine Goes.stop λeI ch=>?_;replace hF:=aa hF ch;clear ch;refine⟨rfl,_,stepG_mark0 .enable ς rfl rfl (by k_ne) rfl H.f_enable (x_enable_n L) (x_enable_b L) (x_enable_x L) (x_enable_f L),20,?_⟩;walk_nrm;u_c sE aa hF;u_reg aa hF;u_op aa hF;u_conv H.underlying_tWgP H.room_tWg (WgLive.cell0 hF).choose_spec aa hF
  refine Goes.stop λeJ ci=>?_;replace hF:=aa hF ci;clear ci;refine⟨rfl,_,stepG_markAt .acquire ς rfl rfl (by k_ne) rfl H.f_acquire (x_acquire_n L) (x_acquire_b L) (x_acquire_x L) (x_acquire_f L) (by simp[Act.eval,stA]),⟨mT+20,?_⟩⟩;clear hF;have hF:True:=trivial;walk_nrm;u_c sE (λh _=>h) hF;iterate 2 (u_c sQ (λh _=>h) hF)
  u_reg (λh _=>h) hF
  u_op (λh _=>h) hF
  u_c sE (λh _=>h) hF
  u_cond false (λh _=>h) hF
  u_c sK (λh _=>h) hF
  u_c stepG_ret' (λh _=>h) hF
  u_leave0 H.f_wait (λh _=>h) hF
  exact(hT _).mono ω
 refine⟨_,stepG_cas_miss (v:=(v':Int)*KK) (old:=S) (n:=S+1) rfl rfl (by k_ne) rfl H.f_casU64 (x_casU64_n L) (x_casU64_b L) (x_casU64_x L) .u64 (x_casU64_f L) rfl rfl rfl hw.cellSt (hw.thaw 0) (by rw[<-hS];simp only[KK];lia),30,?_⟩;clear hw;walk_nrm;u_op aa hF;u_c sE aa hF;u_c stepG_ret' aa hF;u_leave1 H.f_uCas aa hF
 u_c sE aa hF
 u_cond false aa hF
 u_c sK aa hF
 u_c stepG_inBlock aa hF
 u_c stepG_inLoop aa hF
 refine Goes.stop λdL bJ=>?_;replace hF:=aa hF bJ;exact⟨_,rfl,ς,ς,trivial,hF⟩
end
section
variable {P:ϛ}{L:WgLink}{Post:Θ->Ξ}{Wg:Nat}{Qs:List bE}{O K:ϑ}{J:Ξ}{w:Δ}
 {be:Frame}{aJ:Act}{opsA:Array Oper}{cJ:Nat}{restA:Ϙ}{kK:List Item}{cs:List Frame}
set_option maxRecDepth 100000 in
def AW(H:WgLib P L)(w:Δ)(hF:WgLive L.tWg Wg w):Goes P true (RO L.tWg Wg) DC0 (CD P L.tWg Wg (AnchWN L (λ_=>True) Wg (be.at aJ (.inRegion opsA (cJ::restA)::kK)) cs)) 3
  (G ((base L.wait).at ⟨#[pT Wg 0]++Array.replicate 83 undef,[]⟩ [.code (body_wait L)]) (be.at aJ (.inRegion opsA (cJ::restA)::kK)::cs)) w:=by
 lib_facts
 simp only[body_wait,waitFn,yv];walk_nrm;u_c sQ aa hF;u_cond true aa hF;u_reg aa hF;refine Goes.stop λwL bm=>?_;replace hF:=aa hF bm;clear bm;refine⟨rfl,_,stepG_mark0 .disable ς rfl rfl (by k_ne) rfl H.f_disable (x_disable_n L) (x_disable_b L) (x_disable_x L) (x_disable_f L),3,?_⟩;walk_nrm;u_c sE aa hF;u_c stepG_block aa hF;u_c stepG_loop aa hF;exact Goes.stop λwg bv=>⟨_,rfl,ς,ς,trivial,aa hF bv⟩
def qu(H:WgLib P L)(hJ:qq O K J)(hW:¬(O Wg\/K Wg))(hlen:Qs.length<2147483648)(hQ:∀(i:Nat)(Q:bE),Qs[i]?=some Q->∀(O':ϑ)(w wL:Δ),(∀b,O' b\/K b->wL.heap[b]?=w.heap[b]?)->w.heap.size<=wL->wL.eo=w.eo->Q O' w->Q O' wL)(k:∀w(Os:Nat->ϑ),J w->(∀(i:Nat)(Q:bE),Qs[i]?=some Q->Q (Os i) w)->(∀i,i<Qs.length->∀b,Os i b->¬O b/\¬K b/\b<w.heap.size)->(∀i k,i<Qs.length->k<Qs.length->i≠k->∀b,Os i b->¬Os k b)->
  aC P L.tWg Post Wg [] .free (λb=>O b\/∃i,i<Qs.length/\Os i b) K (G (be.at (aJ.put ((opsA[cJ]?).bind (·.dst)) ϳ) (.inRegion opsA restA::kK)) cs) w)(hj:J w)(hl:WgLive L.tWg Wg w):aC P L.tWg Post Wg Qs .sp O K (G (Frame.enter P L.wait #[pT Wg 0] .normal) (be.at aJ (.inRegion opsA (cJ::restA)::kK)::cs)) w:=by
 rw[enter_at (c:=body_wait L) _ H.f_wait rfl];refine AS (Fin:=λg _=>g=G (be.at (aJ.put ((opsA[cJ]?).bind (·.dst)) ϳ) (.inRegion opsA restA::kK)) cs) hJ hW (AV (mT:=0) H λw=>λwL _=>rfl) hlen (λg w m Os hj q1 q2 q3 hg=>?_) hj (AW H w hl);refine aC.a (J:=λw'=>J w'/\(∀(i:Nat)(Q:bE),Qs[i]?=some Q->Q (Os i) w')/\w.heap.size<=w') (λa b hs hz ho hx=>⟨hJ a b (λc hc=>hs c (hc.imp .inl id)) hz ho hx.1,λi Q hi=>hQ i Q hi (Os i) a b (λc hc=>hs c (hc.imp (λhc=>.inr ⟨i,(ym.1 hi).1,hc⟩) id)) hz ho (hx.2.1 i Q hi),yr hx.2.2 hz⟩) (λ_ _ _=>trivial) (λg w' hx hS=>?_) m ⟨hj,q1,Ϫ⟩ hg;obtain rfl:=hS w' trivial;exact k w' Os hx.1 hx.2.1 (λi hi b hb=>⟨(q2 i hi b hb).1,(q2 i hi b hb).2.1,yg (q2 i hi b hb).2.2 hx.2.2⟩) q3
end
variable {P:ϛ}{cs:List Frame}
def _root_.Go.Conc.QuitsD.y{n d:Nat}{b:Frame}{a:Act}{k:List Item}{ops:Array Oper}{i:Nat}{rest:Ϙ}{o:Oper}{v:Θ}(hq:QuitsD P n d (G (b.at (a.put o.dst v) (.inRegion ops rest::k)) cs))(ho:ops[i]?=some o:=by exact rfl)(hw:Region.wanted o (yielded ops a.tmps)=true:=by exact rfl)(hk:b.kind≠.early:=by k_ne)(hr:∀w,(execOp a.eval o).run P w=.ok (.value v) w:=by exact λ_=>by go_simp<;>rfl)(he:∀w,(execOp a.eval o).events P w #[]=#[]:=by exact λ_=>by simp[go_sem, *]):QuitsD P (n+1) d (G (b.at a (.inRegion ops (i::rest)::k)) cs):=(by grind[QuitsD.value])
section
variable {L:WgLink}{Wg:Nat}
set_option maxRecDepth 100000 in
def Hu(H:WgLib P L){be:Frame}{aJ:Act}{opsA:Array Oper}{cJ:Nat}{restA:Ϙ}{kK:List Item}{qt:Nat}(hT:QuitsD P qt 0 (G (be.at (aJ.put ((opsA[cJ]?).bind (·.dst)) ϳ) (.inRegion opsA restA::kK)) cs))(w:Δ)(hF:WgLive L.tWg Wg w):Goes P false (RO L.tWg Wg) DC0 (ER P L.tWg Wg) 40 (G ((base L.add).at ⟨#[pT Wg 0,J (-1)]++Array.replicate 115 undef,[]⟩ [.code (body_add L)]) (be.at aJ (.inRegion opsA (cJ::restA)::kK)::cs)) w:=by
 lib_facts
 simp only[body_add,addFn,yv];walk_nrm;u_c sQ aa hF;u_cond true aa hF;iterate 2 (u_c sQ aa hF)
 u_reg aa hF
 iterate 2 (u_op aa hF)
 u_c sE aa hF
 u_cond true aa hF
 u_reg aa hF
 u_op aa hF
 u_conv H.underlying_tWgP H.room_tWg (WgLive.cell0 hF).choose_spec aa hF
 refine Goes.stop λwL bm=>?_;replace hF:=aa hF bm;clear bm;refine⟨rfl,_,stepG_markAt .releaseMerge ς rfl rfl (by k_ne) rfl H.f_relMerge (x_relMerge_n L) (x_relMerge_b L) (x_relMerge_x L) (x_relMerge_f L) (by simp[Act.eval,stA]),20,?_⟩;walk_nrm;u_c sE aa hF;u_c sQ aa hF;u_reg aa hF;refine Goes.stop λwL bm=>?_;replace hF:=aa hF bm;clear bm;refine⟨rfl,_,stepG_mark0 .disable ς rfl rfl (by k_ne) rfl H.f_disable (x_disable_n L) (x_disable_b L) (x_disable_x L) (x_disable_f L),60,?_⟩;walk_nrm;u_c sE aa hF;u_reg aa hF;u_defer aa hF;u_c sE aa hF
 u_c sQ aa hF
 u_reg aa hF
 u_op aa hF
 u_c sE aa hF
 iterate 2 (u_c sQ aa hF)
 u_reg aa hF
 u_bub aa hF
 u_c sE aa hF
 u_cond false aa hF
 u_c sK aa hF
 u_c sQ aa hF
 u_reg aa hF
 iterate 6 (u_op aa hF)
 u_call H.f_uAdd (nm_uAdd L) uAddFn aa hF
 u_c sQ aa hF
 u_reg aa hF
 u_op aa hF
 u_c sE aa hF
 u_c sQ aa hF
 u_reg aa hF
 iterate 4 (u_op aa hF)
 refine Goes.stop λwL bm=>?_;clear bm hF;refine⟨rfl,λv wt hwt hv hw=>?_⟩;have e0:IntKind.u64.wrap (KK+18446744069414584320)=0:=θ;have e1:IntKind.u64.wrap (KK+1+18446744069414584320)=1:=θ;rcases Lg v with rfl|hvp
 .obtain rfl|rfl:wt=0\/wt=1:=ω
  .replace hw:WgAt L.tWg Wg wL KK 0:=ϰ hw;have z:((0:Nat):Int)*KK+((0:Nat):Int)=0:=ς;rw[z];refine⟨_,(stepG_add_atomic rfl rfl (by k_ne) rfl H.f_addU64 (x_addU64_n L) (x_addU64_b L) (x_addU64_x L) .u64 (x_addU64_f L) rfl rfl hw.cellSt (hw.thaw 0)).trans (by rw[e0];rfl),λhl=>absurd hl.2 θ,λ_=>⟨qt+120,?_⟩⟩;clear hw;walk_nrm
   (refine QuitsD.y ?_;walk_nrm;try w_num)
   q_c sE
   q_c stepG_ret'
   q_leave1 H.f_uAdd
   (refine QuitsD.y ?_;walk_nrm;try w_num)
   q_c sE
   iterate 2 (q_c sQ)
   q_reg
   iterate 4 (refine QuitsD.y ?_;walk_nrm;try w_num)
   iterate 2 (q_skip)
   (refine QuitsD.y ?_;walk_nrm;try w_num)
   q_c sE
   q_cond false
   q_c sK
   q_c sQ
   q_reg
   iterate 4 (refine QuitsD.y ?_;walk_nrm;try w_num)
   q_c sE
   q_c sQ
   q_reg
   iterate 4 (refine QuitsD.y ?_;walk_nrm;try w_num)
   q_c sE
   iterate 2 (q_c sQ)
   q_reg
   iterate 5 (refine QuitsD.y ?_;walk_nrm;try w_num)
   iterate 4 (q_skip)
   (refine QuitsD.y ?_;walk_nrm;try w_num)
   q_c sE
   q_cond false
   q_c sK
   iterate 2 (q_c sQ)
   q_reg
   iterate 2 (refine QuitsD.y ?_;walk_nrm;try w_num)
   q_c sE
   q_cond false
   q_c sK
   iterate 2 (q_c sQ)
   q_reg
   iterate 3 (refine QuitsD.y ?_;walk_nrm;try w_num)
   iterate 2 (q_skip)
   iterate 2 (refine QuitsD.y ?_;walk_nrm;try w_num)
   iterate 4 (q_skip)
   (refine QuitsD.y ?_;walk_nrm;try w_num)
   q_c sE
   q_cond false
   q_c sK
   iterate 2 (q_c sQ)
   q_reg
   iterate 6 (refine QuitsD.y ?_;walk_nrm;try w_num)
   q_c sE
   q_cond true
   q_c stepG_ret'
   q_enable
   q_leave0 H.f_add
   exact ju hT ω
  replace hw:WgAt L.tWg Wg wL (KK+1) 0:=ϰ hw;have z:((0:Nat):Int)*KK+((1:Nat):Int)=1:=ς;rw[z];refine⟨_,(stepG_add_atomic rfl rfl (by k_ne) rfl H.f_addU64 (x_addU64_n L) (x_addU64_b L) (x_addU64_x L) .u64 (x_addU64_f L) rfl rfl hw.cellSt (hw.thaw 0)).trans (by rw[e1];rfl),λ_=>⟨150,?_⟩,λhl=>absurd ⟨rfl,rfl⟩ hl⟩;have hF:WgLive L.tWg Wg (wL.setCell (stA Wg) (.int .u64 1)):=⟨_,_,hw.setSt 1⟩;clear hw;walk_nrm;u_op aa hF;u_c sE aa hF;u_c stepG_ret' aa hF;u_leave1 H.f_uAdd aa hF
  u_op aa hF
  u_c sE aa hF
  iterate 2 (u_c sQ aa hF)
  u_reg aa hF
  iterate 4 (u_op aa hF)
  iterate 2 (u_skip aa hF)
  u_op aa hF
  u_c sE aa hF
  u_cond false aa hF
  u_c sK aa hF
  u_c sQ aa hF
  u_reg aa hF
  iterate 4 (u_op aa hF)
  u_c sE aa hF
  u_c sQ aa hF
  u_reg aa hF
  iterate 4 (u_op aa hF)
  u_c sE aa hF
  iterate 2 (u_c sQ aa hF)
  u_reg aa hF
  iterate 5 (u_op aa hF)
  iterate 4 (u_skip aa hF)
  u_op aa hF
  u_c sE aa hF
  u_cond false aa hF
  u_c sK aa hF
  iterate 2 (u_c sQ aa hF)
  u_reg aa hF
  iterate 2 (u_op aa hF)
  u_c sE aa hF
  u_cond false aa hF
  u_c sK aa hF
  iterate 2 (u_c sQ aa hF)
  u_reg aa hF
  iterate 7 (u_op aa hF)
  iterate 4 (u_skip aa hF)
  u_op aa hF
  u_c sE aa hF
  u_cond false aa hF
  u_c sK aa hF
  iterate 2 (u_c sQ aa hF)
  u_reg aa hF
  iterate 6 (u_op aa hF)
  u_c sE aa hF
  u_cond false aa hF
  u_c sK aa hF
  iterate 2 (u_c sQ aa hF)
  u_reg aa hF
  iterate 3 (u_op aa hF)
  u_call H.f_uLoad (nm_uLoad L) uLoadFn aa hF
  u_c sQ aa hF
  u_reg aa hF
  u_op aa hF
  u_c sE aa hF
  u_c sQ aa hF
  u_reg aa hF
  iterate 3 (u_op aa hF)
  refine Goes.stop λwg bv=>?_;clear bv hF;refine⟨rfl,λhw=>⟨_,stepG_load_atomic rfl rfl (by k_ne) rfl H.f_loadU64 (x_loadU64_n L) (x_loadU64_b L) (x_loadU64_x L) .u64 (x_loadU64_f L) rfl hw.cellSt,60,?_⟩⟩;have hF:WgLive L.tWg Wg wg:=⟨_,_,hw⟩;clear hw;walk_nrm;u_op aa hF;u_c sE aa hF;u_c stepG_ret' aa hF;u_leave1 H.f_uLoad aa hF
  iterate 2 (u_op aa hF)
  u_c sE aa hF
  u_cond false aa hF
  u_c sK aa hF
  u_c sQ aa hF
  u_reg aa hF
  iterate 3 (u_op aa hF)
  u_call H.f_uStore (nm_uStore L) uStoreFn aa hF
  u_reg aa hF
  iterate 4 (u_op aa hF)
  refine Goes.stop λdL bJ=>?_;clear bJ hF;refine⟨rfl,λhw=>⟨_,stepG_store_atomic rfl rfl (by k_ne) rfl H.f_storeU64 (x_storeU64_n L) (x_storeU64_b L) (x_storeU64_x L) (x_storeU64_f L) rfl rfl hw.cellSt (hw.thaw 0),70,?_⟩⟩;have hF:WgLive L.tWg Wg (dL.setCell (stA Wg) (.int .u64 0)):=⟨_,_,hw.setSt 0⟩;clear hw;walk_nrm;u_c sE aa hF;u_c stepG_end aa hF;u_leave0 H.f_uStore aa hF;u_c sE aa hF
  iterate 2 (u_c sQ aa hF)
  u_reg aa hF
  u_op aa hF
  u_c sE aa hF
  u_cond false aa hF
  u_c sK aa hF
  u_c stepG_block aa hF
  u_c stepG_loop aa hF
  iterate 2 (u_c sQ aa hF)
  u_reg aa hF
  iterate 2 (u_op aa hF)
  u_c sE aa hF
  u_cond true aa hF
  u_c sK aa hF
  u_c sQ aa hF
  u_c stepG_block aa hF
  u_reg aa hF
  iterate 3 (u_op aa hF)
  refine Goes.stop λeG ce=>?_;clear ce hF;refine⟨rfl,mayWake_entry rfl rfl H.f_semrelease (x_semrelease_b L),λhw=>⟨_,(stepG_semrelease rfl rfl (by k_ne) rfl H.f_semrelease (x_semrelease_n L) (x_semrelease_b L) (x_semrelease_x L) (x_semrelease_f L) (by simp[Act.eval,smA]) hw.cellSm (hw.thaw 1)).trans (by rfl),qt+60,?_⟩⟩;clear hw;walk_nrm;q_c sE;q_c stepG_inBlock;q_reg;iterate 3 (refine QuitsD.y ?_;walk_nrm;try w_num)
  q_c sE
  q_c stepG_inLoop
  iterate 2 (q_c sQ)
  q_reg
  iterate 2 (refine QuitsD.y ?_;walk_nrm;try w_num)
  q_c sE
  q_cond false
  q_exit
  q_c stepG_end
  q_enable
  q_leave0 H.f_add
  exact ju hT ω
 obtain rfl|rfl:wt=0\/wt=1:=ω
 .replace hw:WgAt L.tWg Wg wL (((v:Nat)+1)*KK+0) 0:=ϰ hw;have z:((v:Nat):Int)*KK+((0:Nat):Int)=(v:Int)*KK+0:=ς;rw[z];have hS':IntKind.u64.wrap (((v:Nat)+1)*KK+0+18446744069414584320)=(v:Int)*KK+0:=by rw[IntKind.wrap_u64];simp only[KK];lia
  obtain⟨S,hS⟩:∃S:Int,S=(v:Int)*KK+0:=⟨_,rfl⟩;rw[<-hS]at hS'|-;have a1:S/4294967296=(v:Int):=by rw[hS];simp only[KK];lia
  have a2:0<=S/\S<9223372036854775808:=by rw[hS];simp only[KK];lia
  have b1:bits .and .u64 S 2147483648=0:=by rw[hS];have:=ConcN.st_flag v 0 ω ω;simpa[KK]using this
  have b2:bits .and .u64 S 2147483647=0:=by rw[hS];have:=ConcN.st_waiters v 0 ω ω;simpa[KK]using this
  have c1:IntKind.i32.wrap (v:Int)=(v:Int):=by rw[IntKind.wrap_i32];lia
  have q3:decide ((v:Int)<0)=false:=decide_eq_false ω;have q4:decide (0<(v:Int))=true:=decide_eq_true ω;have q5:((v:Int)==0)=false:=by simp;lia
  have q6:decide ((v:Int)=0)=false:=decide_eq_false ω;clear hS z;refine⟨_,(stepG_add_atomic rfl rfl (by k_ne) rfl H.f_addU64 (x_addU64_n L) (x_addU64_b L) (x_addU64_x L) .u64 (x_addU64_f L) rfl rfl hw.cellSt (hw.thaw 0)).trans (by rw[hS'];rfl),λhl=>absurd hl.1 ω,λ_=>⟨qt+120,?_⟩⟩;clear hw hS';walk_nrm
  (refine QuitsD.y ?_;walk_nrm;try w_num)
  q_c sE
  q_c stepG_ret'
  q_leave1 H.f_uAdd
  (refine QuitsD.y ?_;walk_nrm;try w_num)
  q_c sE
  iterate 2 (q_c sQ)
  q_reg
  iterate 4 (refine QuitsD.y ?_;walk_nrm;try w_num)
  iterate 2 (q_skip)
  (refine QuitsD.y ?_;walk_nrm;try w_num)
  q_c sE
  q_cond false
  q_c sK
  q_c sQ
  q_reg
  iterate 4 (refine QuitsD.y ?_;walk_nrm;try w_num)
  q_c sE
  q_c sQ
  q_reg
  iterate 4 (refine QuitsD.y ?_;walk_nrm;try w_num)
  q_c sE
  iterate 2 (q_c sQ)
  q_reg
  iterate 5 (refine QuitsD.y ?_;walk_nrm;try w_num)
  iterate 4 (q_skip)
  (refine QuitsD.y ?_;walk_nrm;try w_num)
  q_c sE
  q_cond false
  q_c sK
  iterate 2 (q_c sQ)
  q_reg
  iterate 2 (refine QuitsD.y ?_;walk_nrm;try w_num)
  q_c sE
  q_cond false
  q_c sK
  iterate 2 (q_c sQ)
  q_reg
  iterate 3 (refine QuitsD.y ?_;walk_nrm;try w_num)
  iterate 2 (q_skip)
  iterate 2 (refine QuitsD.y ?_;walk_nrm;try w_num)
  iterate 4 (q_skip)
  (refine QuitsD.y ?_;walk_nrm;try w_num)
  q_c sE
  q_cond false
  q_c sK
  iterate 2 (q_c sQ)
  q_reg
  iterate 3 (refine QuitsD.y ?_;walk_nrm;try w_num)
  iterate 2 (q_skip)
  (refine QuitsD.y ?_;walk_nrm;try w_num)
  q_c sE
  q_cond true
  q_c stepG_ret'
  q_enable
  q_leave0 H.f_add
  exact ju hT ω
 replace hw:WgAt L.tWg Wg wL (((v:Nat)+1)*KK+1) 0:=ϰ hw;have z:((v:Nat):Int)*KK+((1:Nat):Int)=(v:Int)*KK+1:=ς;rw[z];have hS':IntKind.u64.wrap (((v:Nat)+1)*KK+1+18446744069414584320)=(v:Int)*KK+1:=by rw[IntKind.wrap_u64];simp only[KK];lia
 obtain⟨S,hS⟩:∃S:Int,S=(v:Int)*KK+1:=⟨_,rfl⟩;rw[<-hS]at hS'|-;have a1:S/4294967296=(v:Int):=by rw[hS];simp only[KK];lia
 have a2:0<=S/\S<9223372036854775808:=by rw[hS];simp only[KK];lia
 have b1:bits .and .u64 S 2147483648=0:=by rw[hS];have:=ConcN.st_flag v 1 ω ω;simpa[KK]using this
 have b2:bits .and .u64 S 2147483647=1:=by rw[hS];have:=ConcN.st_waiters v 1 ω ω;simpa[KK]using this
 have c1:IntKind.i32.wrap (v:Int)=(v:Int):=by rw[IntKind.wrap_i32];lia
 have q3:decide ((v:Int)<0)=false:=decide_eq_false ω;have q4:decide (0<(v:Int))=true:=decide_eq_true ω;have q5:((v:Int)==0)=false:=by simp;lia
 have q6:decide ((v:Int)=0)=false:=decide_eq_false ω;clear hS z;refine⟨_,(stepG_add_atomic rfl rfl (by k_ne) rfl H.f_addU64 (x_addU64_n L) (x_addU64_b L) (x_addU64_x L) .u64 (x_addU64_f L) rfl rfl hw.cellSt (hw.thaw 0)).trans (by rw[hS'];rfl),λhl=>absurd hl.1 ω,λ_=>⟨qt+120,?_⟩⟩;clear hw hS';walk_nrm
 (refine QuitsD.y ?_;walk_nrm;try w_num)
 q_c sE
 q_c stepG_ret'
 q_leave1 H.f_uAdd
 (refine QuitsD.y ?_;walk_nrm;try w_num)
 q_c sE
 iterate 2 (q_c sQ)
 q_reg
 iterate 4 (refine QuitsD.y ?_;walk_nrm;try w_num)
 iterate 2 (q_skip)
 (refine QuitsD.y ?_;walk_nrm;try w_num)
 q_c sE
 q_cond false
 q_c sK
 q_c sQ
 q_reg
 iterate 4 (refine QuitsD.y ?_;walk_nrm;try w_num)
 q_c sE
 q_c sQ
 q_reg
 iterate 4 (refine QuitsD.y ?_;walk_nrm;try w_num)
 q_c sE
 iterate 2 (q_c sQ)
 q_reg
 iterate 5 (refine QuitsD.y ?_;walk_nrm;try w_num)
 iterate 4 (q_skip)
 (refine QuitsD.y ?_;walk_nrm;try w_num)
 q_c sE
 q_cond false
 q_c sK
 iterate 2 (q_c sQ)
 q_reg
 iterate 2 (refine QuitsD.y ?_;walk_nrm;try w_num)
 q_c sE
 q_cond false
 q_c sK
 iterate 2 (q_c sQ)
 q_reg
 iterate 7 (refine QuitsD.y ?_;walk_nrm;try w_num)
 iterate 4 (q_skip)
 (refine QuitsD.y ?_;walk_nrm;try w_num)
 q_c sE
 q_cond false
 q_c sK
 iterate 2 (q_c sQ)
 q_reg
 iterate 3 (refine QuitsD.y ?_;walk_nrm;try w_num)
 iterate 2 (q_skip)
 (refine QuitsD.y ?_;walk_nrm;try w_num)
 q_c sE
 q_cond true
 q_c stepG_ret'
 q_enable
 q_leave0 H.f_add
 exact ju hT ω
end
