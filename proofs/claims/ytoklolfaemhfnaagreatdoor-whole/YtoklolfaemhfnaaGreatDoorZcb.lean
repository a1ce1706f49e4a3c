import Derived.Conc.WgGenN3
import Derived.Conc.Company
import Derived.Test.YtoklolfaemhfnaaGreatDoorZah
import Derived.Test.YtoklolfaemhfnaaGreatDoorZai
import Derived.Test.YtoklolfaemhfnaaGreatDoorZbm
set_option maxRecDepth 100000
set_option maxHeartbeats 8000000
namespace Go.Cr
section
open Go Go.Conc Go.RowKit Go.Conc.Lib Go.ConcR.Gen Go.ConcN.Gen
open Go.ConcN (WgLive)
open Go.ConcR (KK wgBlock WgAt stA smA rd wr mk DC0 WgAt.setSt WgAt.setSm)
theorem _root_.Go.Conc.QuitsD.y{P:Program}{n d:Nat}{b:Frame}{a:Act}{k:List Item}{cs:List Frame}{ops:Array Oper}{i:Nat}{rest:List Nat}{o:Oper}{v:Value}(hq:QuitsD P n d (G (b.at (a.put o.dst v) (.inRegion ops rest::k)) cs))(ho:ops[i]?=some o:=by exact rfl)(hw:Region.wanted o (yielded ops a.tmps)=true:=by exact rfl)(hk:b.kind≠.early:=by k_ne)
 (hr:∀w,(execOp a.eval o).run P w=.ok (.value v) w:=by exact fun _=>by go_simp <;> rfl) (he:∀w,(execOp a.eval o).events P w #[]=#[]:=by exact fun _=>by simp[go_sem, *]):QuitsD P (n+1) d (G (b.at a (.inRegion ops (i::rest)::k)) cs):=QuitsD.value v ho hw hk hr he hq
section
variable {L:WgLink}{Wg:Nat}
set_option maxRecDepth 100000 in
theorem addNeg{P:Program}(H:WgLib P L){bA:Frame}{aA:Act}{opsA:Array Oper}{iA:Nat}{restA:List Nat}{kA:List Item}{cs:List Frame}{qt:Nat}
 (hT:QuitsD P qt 0 (G (bA.at (aA.put ((opsA[iA]?).bind (·.dst)) (.tuple #[])) (.inRegion opsA restA::kA)) cs)) (w:World) (hF:WgLive L.tWg Wg w) :
 Goes P false (RO L.tWg Wg) DC0 (ER P L.tWg Wg) 40 (G ((base L.add).at ⟨#[pT Wg 0,J (-1)]++Array.replicate 115 undef,[]⟩ [.code (body_add L)]) (bA.at aA (.inRegion opsA (iA::restA)::kA)::cs)) w:=by
 lib_facts
 simp only[body_add,addFn,yv];walk_nrm;u_c sQ qa hF
 u_cond true qa hF
 iterate 2 (u_c sQ qa hF)
 u_reg qa hF
 iterate 2 (u_op qa hF)
 u_c sE qa hF
 u_cond true qa hF
 u_reg qa hF
 u_op qa hF
 u_conv H.underlying_tWgP H.room_tWg (WgLive.cell0 hF).choose_spec qa hF
 refine Goes.stop (fun wB h₁=>?_);replace hF:=qa hF h₁;clear h₁;refine⟨rfl,_,stepG_markAt .releaseMerge (by simp) rfl rfl (by k_ne) rfl H.f_relMerge (x_relMerge_n L) (x_relMerge_b L) (x_relMerge_x L) (x_relMerge_f L) (by simp[Act.eval,stA]),20,?_⟩;walk_nrm;u_c sE qa hF
 u_c sQ qa hF
 u_reg qa hF
 refine Goes.stop (fun wB h₁=>?_);replace hF:=qa hF h₁;clear h₁;refine⟨rfl,_,stepG_mark0 .disable (by simp) rfl rfl (by k_ne) rfl H.f_disable (x_disable_n L) (x_disable_b L) (x_disable_x L) (x_disable_f L),60,?_⟩;walk_nrm;u_c sE qa hF
 u_reg qa hF
 u_defer qa hF
 u_c sE qa hF
 u_c sQ qa hF
 u_reg qa hF
 u_op qa hF
 u_c sE qa hF
 iterate 2 (u_c sQ qa hF)
 u_reg qa hF
 u_bub qa hF
 u_c sE qa hF
 u_cond false qa hF
 u_c sK qa hF
 u_c sQ qa hF
 u_reg qa hF
 iterate 6 (u_op qa hF)
 u_call H.f_uAdd (nm_uAdd L) uAddFn qa hF
 u_c sQ qa hF
 u_reg qa hF
 u_op qa hF
 u_c sE qa hF
 u_c sQ qa hF
 u_reg qa hF
 iterate 4 (u_op qa hF)
 refine Goes.stop (fun wB h₁=>?_);clear h₁ hF;refine⟨rfl,fun v wt hwt hv hw=>?_⟩;have e0:IntKind.u64.wrap (KK+18446744069414584320)=0:=by decide
 have e1:IntKind.u64.wrap (KK+1+18446744069414584320)=1:=by decide
 rcases ybh v with rfl|hvp
 ·obtain rfl|rfl:wt=0\/wt=1:=by omega
  ·replace hw:WgAt L.tWg Wg wB KK 0:=by simpa using hw
   have z:((0:Nat):Int) * KK+((0:Nat):Int)=0:=by simp
   rw[z];refine⟨_,(stepG_add_atomic rfl rfl (by k_ne) rfl H.f_addU64 (x_addU64_n L) (x_addU64_b L) (x_addU64_x L) .u64 (x_addU64_f L) rfl rfl hw.cellSt (hw.thaw 0)).trans (by rw[e0];rfl),fun hl=>absurd hl.2 (by decide),fun _=>⟨qt+120,?_⟩⟩;clear hw;walk_nrm
   (refine QuitsD.y ?_;walk_nrm;try w_num)
   q_c sE
   q_c stepG_ret'
   q_leave1 H.f_uAdd
   (refine QuitsD.y ?_;walk_nrm;try w_num)
   q_c sE
   iterate 2 (q_c sQ)
   q_reg
   iterate 4 (refine QuitsD.y ?_;walk_nrm;try w_num)
   iterate 2 (q_skip)
   (refine QuitsD.y ?_;walk_nrm;try w_num)
   q_c sE
   q_cond false
   q_c sK
   q_c sQ
   q_reg
   iterate 4 (refine QuitsD.y ?_;walk_nrm;try w_num)
   q_c sE
   q_c sQ
   q_reg
   iterate 4 (refine QuitsD.y ?_;walk_nrm;try w_num)
   q_c sE
   iterate 2 (q_c sQ)
   q_reg
   iterate 5 (refine QuitsD.y ?_;walk_nrm;try w_num)
   iterate 4 (q_skip)
   (refine QuitsD.y ?_;walk_nrm;try w_num)
   q_c sE
   q_cond false
   q_c sK
   iterate 2 (q_c sQ)
   q_reg
   iterate 2 (refine QuitsD.y ?_;walk_nrm;try w_num)
   q_c sE
   q_cond false
   q_c sK
   iterate 2 (q_c sQ)
   q_reg
   iterate 3 (refine QuitsD.y ?_;walk_nrm;try w_num)
   iterate 2 (q_skip)
   iterate 2 (refine QuitsD.y ?_;walk_nrm;try w_num)
   iterate 4 (q_skip)
   (refine QuitsD.y ?_;walk_nrm;try w_num)
   q_c sE
   q_cond false
   q_c sK
   iterate 2 (q_c sQ)
   q_reg
   iterate 6 (refine QuitsD.y ?_;walk_nrm;try w_num)
   q_c sE
   q_cond true
   q_c stepG_ret'
   q_enable
   q_leave0 H.f_add
   exact qc3 hT (by omega)
  ·replace hw:WgAt L.tWg Wg wB (KK+1) 0:=by simpa using hw
   have z:((0:Nat):Int) * KK+((1:Nat):Int)=1:=by simp
   rw[z];refine⟨_,(stepG_add_atomic rfl rfl (by k_ne) rfl H.f_addU64 (x_addU64_n L) (x_addU64_b L) (x_addU64_x L) .u64 (x_addU64_f L) rfl rfl hw.cellSt (hw.thaw 0)).trans (by rw[e1];rfl),fun _=>⟨150,?_⟩,fun hl=>absurd ⟨rfl,rfl⟩ hl⟩;have hF:WgLive L.tWg Wg (wB.setCell (stA Wg) (.int .u64 1)):=⟨_,_,hw.setSt 1⟩;clear hw;walk_nrm;u_op qa hF
   u_c sE qa hF
   u_c stepG_ret' qa hF
   u_leave1 H.f_uAdd qa hF
   u_op qa hF
   u_c sE qa hF
   iterate 2 (u_c sQ qa hF)
   u_reg qa hF
   iterate 4 (u_op qa hF)
   iterate 2 (u_skip qa hF)
   u_op qa hF
   u_c sE qa hF
   u_cond false qa hF
   u_c sK qa hF
   u_c sQ qa hF
   u_reg qa hF
   iterate 4 (u_op qa hF)
   u_c sE qa hF
   u_c sQ qa hF
   u_reg qa hF
   iterate 4 (u_op qa hF)
   u_c sE qa hF
   iterate 2 (u_c sQ qa hF)
   u_reg qa hF
   iterate 5 (u_op qa hF)
   iterate 4 (u_skip qa hF)
   u_op qa hF
   u_c sE qa hF
   u_cond false qa hF
   u_c sK qa hF
   iterate 2 (u_c sQ qa hF)
   u_reg qa hF
   iterate 2 (u_op qa hF)
   u_c sE qa hF
   u_cond false qa hF
   u_c sK qa hF
   iterate 2 (u_c sQ qa hF)
   u_reg qa hF
   iterate 7 (u_op qa hF)
   iterate 4 (u_skip qa hF)
   u_op qa hF
   u_c sE qa hF
   u_cond false qa hF
   u_c sK qa hF
   iterate 2 (u_c sQ qa hF)
   u_reg qa hF
   iterate 6 (u_op qa hF)
   u_c sE qa hF
   u_cond false qa hF
   u_c sK qa hF
   iterate 2 (u_c sQ qa hF)
   u_reg qa hF
   iterate 3 (u_op qa hF)
   u_call H.f_uLoad (nm_uLoad L) uLoadFn qa hF
   u_c sQ qa hF
   u_reg qa hF
   u_op qa hF
   u_c sE qa hF
   u_c sQ qa hF
   u_reg qa hF
   iterate 3 (u_op qa hF)
   refine Goes.stop (fun wC h₂=>?_);clear h₂ hF;refine⟨rfl,fun hw=>⟨_,stepG_load_atomic rfl rfl (by k_ne) rfl H.f_loadU64 (x_loadU64_n L) (x_loadU64_b L) (x_loadU64_x L) .u64 (x_loadU64_f L) rfl hw.cellSt,60,?_⟩⟩;have hF:WgLive L.tWg Wg wC:=⟨_,_,hw⟩;clear hw;walk_nrm;u_op qa hF
   u_c sE qa hF
   u_c stepG_ret' qa hF
   u_leave1 H.f_uLoad qa hF
   iterate 2 (u_op qa hF)
   u_c sE qa hF
   u_cond false qa hF
   u_c sK qa hF
   u_c sQ qa hF
   u_reg qa hF
   iterate 3 (u_op qa hF)
   u_call H.f_uStore (nm_uStore L) uStoreFn qa hF
   u_reg qa hF
   iterate 4 (u_op qa hF)
   refine Goes.stop (fun wD hN=>?_);clear hN hF;refine⟨rfl,fun hw=>⟨_,stepG_store_atomic rfl rfl (by k_ne) rfl H.f_storeU64 (x_storeU64_n L) (x_storeU64_b L) (x_storeU64_x L) (x_storeU64_f L) rfl rfl hw.cellSt (hw.thaw 0),70,?_⟩⟩;have hF:WgLive L.tWg Wg (wD.setCell (stA Wg) (.int .u64 0)):=⟨_,_,hw.setSt 0⟩;clear hw;walk_nrm;u_c sE qa hF
   u_c stepG_end qa hF
   u_leave0 H.f_uStore qa hF
   u_c sE qa hF
   iterate 2 (u_c sQ qa hF)
   u_reg qa hF
   u_op qa hF
   u_c sE qa hF
   u_cond false qa hF
   u_c sK qa hF
   u_c stepG_block qa hF
   u_c stepG_loop qa hF
   iterate 2 (u_c sQ qa hF)
   u_reg qa hF
   iterate 2 (u_op qa hF)
   u_c sE qa hF
   u_cond true qa hF
   u_c sK qa hF
   u_c sQ qa hF
   u_c stepG_block qa hF
   u_reg qa hF
   iterate 3 (u_op qa hF)
   refine Goes.stop (fun wE h₄=>?_);clear h₄ hF;refine⟨rfl,mayWake_entry rfl rfl H.f_semrelease (x_semrelease_b L),fun hw=>⟨_,(stepG_semrelease rfl rfl (by k_ne) rfl H.f_semrelease (x_semrelease_n L) (x_semrelease_b L) (x_semrelease_x L) (x_semrelease_f L) (by simp[Act.eval,smA]) hw.cellSm (hw.thaw 1)).trans (by rfl),qt+60,?_⟩⟩;clear hw;walk_nrm;q_c sE
   q_c stepG_inBlock
   q_reg
   iterate 3 (refine QuitsD.y ?_;walk_nrm;try w_num)
   q_c sE
   q_c stepG_inLoop
   iterate 2 (q_c sQ)
   q_reg
   iterate 2 (refine QuitsD.y ?_;walk_nrm;try w_num)
   q_c sE
   q_cond false
   q_exit
   q_c stepG_end
   q_enable
   q_leave0 H.f_add
   exact qc3 hT (by omega)
 ·obtain rfl|rfl:wt=0\/wt=1:=by omega
  ·replace hw:WgAt L.tWg Wg wB (((v:Nat)+1) * KK+0) 0:=by simpa using hw
   have z:((v:Nat):Int) * KK+((0:Nat):Int)=(v:Int) * KK+0:=by simp
   rw[z];have hS':IntKind.u64.wrap (((v:Nat)+1) * KK+0+18446744069414584320)=(v:Int) * KK+0:=by rw[IntKind.wrap_u64];simp only[KK];omega
   obtain⟨S,hS⟩:∃S:Int,S=(v:Int) * KK+0:=⟨_,rfl⟩;rw[<-hS] at hS' ⊢;have a1:S / 4294967296=(v:Int):=by rw[hS];simp only[KK];omega
   have a2:0<=S/\S<9223372036854775808:=by rw[hS];simp only[KK];omega
   have b1:bits .and .u64 S 2147483648=0:=by rw[hS];have:=Go.ConcN.st_flag v 0 (by omega) (by omega);simpa[KK] using this
   have b2:bits .and .u64 S 2147483647=0:=by rw[hS];have:=Go.ConcN.st_waiters v 0 (by omega) (by omega);simpa[KK] using this
   have c1:IntKind.i32.wrap (v:Int)=(v:Int):=by rw[IntKind.wrap_i32];omega
   have q3:decide ((v:Int)<0)=false:=decide_eq_false (by omega);have q4:decide (0<(v:Int))=true:=decide_eq_true (by omega);have q5:((v:Int) == 0)=false:=by simp;omega
   have q6:decide ((v:Int)=0)=false:=decide_eq_false (by omega);clear hS z;refine⟨_,(stepG_add_atomic rfl rfl (by k_ne) rfl H.f_addU64 (x_addU64_n L) (x_addU64_b L) (x_addU64_x L) .u64 (x_addU64_f L) rfl rfl hw.cellSt (hw.thaw 0)).trans (by rw[hS'];rfl),fun hl=>absurd hl.1 (by omega),fun _=>⟨qt+120,?_⟩⟩;clear hw hS';walk_nrm
   (refine QuitsD.y ?_;walk_nrm;try w_num)
   q_c sE
   q_c stepG_ret'
   q_leave1 H.f_uAdd
   (refine QuitsD.y ?_;walk_nrm;try w_num)
   q_c sE
   iterate 2 (q_c sQ)
   q_reg
   iterate 4 (refine QuitsD.y ?_;walk_nrm;try w_num)
   iterate 2 (q_skip)
   (refine QuitsD.y ?_;walk_nrm;try w_num)
   q_c sE
   q_cond false
   q_c sK
   q_c sQ
   q_reg
   iterate 4 (refine QuitsD.y ?_;walk_nrm;try w_num)
   q_c sE
   q_c sQ
   q_reg
   iterate 4 (refine QuitsD.y ?_;walk_nrm;try w_num)
   q_c sE
   iterate 2 (q_c sQ)
   q_reg
   iterate 5 (refine QuitsD.y ?_;walk_nrm;try w_num)
   iterate 4 (q_skip)
   (refine QuitsD.y ?_;walk_nrm;try w_num)
   q_c sE
   q_cond false
   q_c sK
   iterate 2 (q_c sQ)
   q_reg
   iterate 2 (refine QuitsD.y ?_;walk_nrm;try w_num)
   q_c sE
   q_cond false
   q_c sK
   iterate 2 (q_c sQ)
   q_reg
   iterate 3 (refine QuitsD.y ?_;walk_nrm;try w_num)
   iterate 2 (q_skip)
   iterate 2 (refine QuitsD.y ?_;walk_nrm;try w_num)
   iterate 4 (q_skip)
   (refine QuitsD.y ?_;walk_nrm;try w_num)
   q_c sE
   q_cond false
   q_c sK
   iterate 2 (q_c sQ)
   q_reg
   iterate 3 (refine QuitsD.y ?_;walk_nrm;try w_num)
   iterate 2 (q_skip)
   (refine QuitsD.y ?_;walk_nrm;try w_num)
   q_c sE
   q_cond true
   q_c stepG_ret'
   q_enable
   q_leave0 H.f_add
   exact qc3 hT (by omega)
  ·replace hw:WgAt L.tWg Wg wB (((v:Nat)+1) * KK+1) 0:=by simpa using hw
   have z:((v:Nat):Int) * KK+((1:Nat):Int)=(v:Int) * KK+1:=by simp
   rw[z];have hS':IntKind.u64.wrap (((v:Nat)+1) * KK+1+18446744069414584320)=(v:Int) * KK+1:=by rw[IntKind.wrap_u64];simp only[KK];omega
   obtain⟨S,hS⟩:∃S:Int,S=(v:Int) * KK+1:=⟨_,rfl⟩;rw[<-hS] at hS' ⊢;have a1:S / 4294967296=(v:Int):=by rw[hS];simp only[KK];omega
   have a2:0<=S/\S<9223372036854775808:=by rw[hS];simp only[KK];omega
   have b1:bits .and .u64 S 2147483648=0:=by rw[hS];have:=Go.ConcN.st_flag v 1 (by omega) (by omega);simpa[KK] using this
   have b2:bits .and .u64 S 2147483647=1:=by rw[hS];have:=Go.ConcN.st_waiters v 1 (by omega) (by omega);simpa[KK] using this
   have c1:IntKind.i32.wrap (v:Int)=(v:Int):=by rw[IntKind.wrap_i32];omega
   have q3:decide ((v:Int)<0)=false:=decide_eq_false (by omega);have q4:decide (0<(v:Int))=true:=decide_eq_true (by omega);have q5:((v:Int) == 0)=false:=by simp;omega
   have q6:decide ((v:Int)=0)=false:=decide_eq_false (by omega);clear hS z;refine⟨_,(stepG_add_atomic rfl rfl (by k_ne) rfl H.f_addU64 (x_addU64_n L) (x_addU64_b L) (x_addU64_x L) .u64 (x_addU64_f L) rfl rfl hw.cellSt (hw.thaw 0)).trans (by rw[hS'];rfl),fun hl=>absurd hl.1 (by omega),fun _=>⟨qt+120,?_⟩⟩;clear hw hS';walk_nrm
   (refine QuitsD.y ?_;walk_nrm;try w_num)
   q_c sE
   q_c stepG_ret'
   q_leave1 H.f_uAdd
   (refine QuitsD.y ?_;walk_nrm;try w_num)
   q_c sE
   iterate 2 (q_c sQ)
   q_reg
   iterate 4 (refine QuitsD.y ?_;walk_nrm;try w_num)
   iterate 2 (q_skip)
   (refine QuitsD.y ?_;walk_nrm;try w_num)
   q_c sE
   q_cond false
   q_c sK
   q_c sQ
   q_reg
   iterate 4 (refine QuitsD.y ?_;walk_nrm;try w_num)
   q_c sE
   q_c sQ
   q_reg
   iterate 4 (refine QuitsD.y ?_;walk_nrm;try w_num)
   q_c sE
   iterate 2 (q_c sQ)
   q_reg
   iterate 5 (refine QuitsD.y ?_;walk_nrm;try w_num)
   iterate 4 (q_skip)
   (refine QuitsD.y ?_;walk_nrm;try w_num)
   q_c sE
   q_cond false
   q_c sK
   iterate 2 (q_c sQ)
   q_reg
   iterate 2 (refine QuitsD.y ?_;walk_nrm;try w_num)
   q_c sE
   q_cond false
   q_c sK
   iterate 2 (q_c sQ)
   q_reg
   iterate 7 (refine QuitsD.y ?_;walk_nrm;try w_num)
   iterate 4 (q_skip)
   (refine QuitsD.y ?_;walk_nrm;try w_num)
   q_c sE
   q_cond false
   q_c sK
   iterate 2 (q_c sQ)
   q_reg
   iterate 3 (refine QuitsD.y ?_;walk_nrm;try w_num)
   iterate 2 (q_skip)
   (refine QuitsD.y ?_;walk_nrm;try w_num)
   q_c sE
   q_cond true
   q_c stepG_ret'
   q_enable
   q_leave0 H.f_add
   exact qc3 hT (by omega)
end
end
end Go.Cr
