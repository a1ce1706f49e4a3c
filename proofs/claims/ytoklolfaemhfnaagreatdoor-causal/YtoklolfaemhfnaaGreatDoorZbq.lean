import Derived.Test.YtoklolfaemhfnaaGreatDoorZbp
set_option maxRecDepth 100000
set_option maxHeartbeats 0
set_option linter.defProp false
open Go.Proofs.Tryz (prog)
namespace Go.Proofs.YtoklolfaemhfnaaGreatDoor
section
open Go.RowKit
open Go.Cr Go.Conc
open Go.Pm (Rely Perm Sup Ext Ev)
open Md (PS Grp Book GW RI)
variable {v:Value}{cf:Frame}
section
def mA{α:Type}{l:α}{L L':List α}(h:l∈L)(e:L=L'):l∈L':=e▸h
def Fc(bx P0 n:Nat)(b:Int):Nat->Value
 |0=>pT bx 2
 |1=>.int .i64 b
 |2=>pT P0 0
 |3=>pT P0 0
 |4=>pT P0 1
 |5=>pT P0 1
 |_=>.int .i64 n
def Fb(bx P0 G0 q:Nat)(t:ByteArray):Nat->Value
 |0=>pT P0 0
 |1=>pT P0 0
 |2=>pT P0 0
 |3=>pT G0 0
 |4=>.int .i64 q
 |5=>pT bx 4
 |6=>.string t
 |_=>.string (xU t 16)
def ax{P:Program}{main:Bool}{K:Nat->Prop}{A:World->Prop}{X:Event->Prop}{Stop:(Nat->Prop)->Goroutine->World->Prop}{O:Nat->Prop}{w:World}{b:Frame}{a:Act}{todo:List Item}{c:Frame}{cs:List Frame}{fn:Func}{t:Nat}(hn:b.kind=.normal)(hd:a.defers=[])(hf:P.funcs[b.fn]?=some fn)(hr:fn.results=#[.tmp t])(hv:a.tmps.getD t undef=v)
 (h:Go.Pm.Way P main K A X Stop O (G (c.finish v) cs) w):Go.Pm.Way P main K A X Stop O (G { b.at a todo with mode:=.returning } (c::cs)) w:=
 au rfl (fun w=>by rw[stepG_leave hn hd hf ((results_tmp hr _ P w).trans (by rw[hv])) (events_results_tmp hr _ _)]) h
abbrev aP(kd a b c:Int)(t:ByteArray):Array Value:=#[.int .i64 kd,.int .i64 a,.int .i64 b,.int .i64 c,.string t]
def AC(bx P0 n:Nat)(a:Int):Nat->Value
 |0=>pT bx 1
 |1=>.int .i64 a
 |2=>pT P0 0
 |3=>pT P0 0
 |4=>pT P0 1
 |5=>pT P0 1
 |_=>.int .i64 n
def Mq.cell2{c:gN}{P0 G0:Nat}{J:zV}{L:List (Nat × Obj)}{O:Nat->Prop}{wa:World}(h:Mq c P0 G0 J L O wa):O P0/\wa.cell? (aT P0 0)=some (pT G0 0)/\wa.cell? (aT P0 1)=some (.int .i64 c.n):=by
 obtain⟨G1,cr, -,h⟩:=h.e;exact⟨h.a.1,h.a.2.1,h.a.2.2.1⟩
def Mq.c{c:gN}{P0 G0:Nat}{J:zV}{L:List (Nat × Obj)}{O:Nat->Prop}{wa:World}(h:Mq c P0 G0 J L O wa)(j:Nat):wa.frozen? (aT P0 j)=false:=by
 obtain⟨π,w,pp,gb,FG,G',cr',h1,h2,rfl,rfl,h5,h6,h7⟩:=h;have hwa:=h1.a.e pp _ h5 h6;simp only[Obj.pm] at hwa;exact frozen_of_row wa (π.f pp) j _ _ hwa
def Mq.j{c:gN}{P0 G0:Nat}{L:List (Nat × Obj)}{O:Nat->Prop}{wa:World}{G1:Grp}{cr:Book}(h:Mq c P0 G0 (fun G' cr'=>G'=G1/\cr'=cr) L O wa){q:Nat}(hq:q<6):Mq c P0 G0 (fun G' cr'=>G'=G1/\cr'=cr.put q) L O (wa.setCell ⟨P0,4+q,none⟩ (.bool true)):=by
 obtain⟨π,w,pp,gb,FG,G',cr',h1,h2,rfl,rfl,h5,h6,h7,h8,rfl,rfl⟩:=h;have hb:∀k,k≠pp->(w.setCell ⟨pp,4+q,none⟩ (.bool true)).heap[k]?=w.heap[k]?:=fun k hk=>Below.heap_setCell _ _ _ _ hk;have hba:∀k,k≠π.f pp->(wa.setCell ⟨π.f pp,4+q,none⟩ (.bool true)).heap[k]?=wa.heap[k]?:=fun k hk=>Below.heap_setCell _ _ _ _ hk;have hA:=aside_setCell w ⟨pp,4+q,none⟩ (.bool true);have hAa:=aside_setCell wa ⟨π.f pp,4+q,none⟩ (.bool true);have hinj:∀r,π.f r=π.f pp->r=pp:=fun r e=>by rw[<-π.a r,<-π.a pp,e]
 have hset:=af.e h6 (4+q) (.bool true);have hpl:CC (w.setCell ⟨pp,4+q,none⟩ (.bool true)) pp gb c.n c.d c.b (Md.Book.put cr' q) c.a:=by
  unfold CC;refine Eq.mp (congrArg _ ?_) hset;match q,hq with
  |0,_=>rfl
  |1,_=>rfl
  |2,_=>rfl
  |3,_=>rfl
  |4,_=>rfl
  |5,_=>rfl
 have hwa:=h1.a.e pp _ h5 h6;simp only[Obj.pm] at hwa;have hwa2:=heap_setCell_same wa (π.f pp) (4+q) _ _ (.bool true) hwa;refine⟨π,w.setCell ⟨pp,4+q,none⟩ (.bool true),pp,gb,FG,G',Md.Book.put cr' q,⟨⟨fun r o hl hr=>?_,h1.a.d,by rw[hA.size];exact h1.a.c,by rw[hAa.size];exact h1.a.a,by rw[hAa.os,hA.os];exact h1.a.os,h1.a.g,h1.a.b⟩,⟨fun σ hσ r o hl hr=>?_⟩,bR h1.f fun x hx=>hb x ω,bR h1.e fun x hx=>hba x fun e=>?_,fun r h10 hr=>h1.c r h10 (by rw[hA.size] at hr;exact hr)⟩,fun x hx=>?_,rfl,rfl,h5,hpl,h7,?_,rfl,rfl⟩
 ·by_cases e:r=pp
  ·subst e;rw[show (w.setCell ⟨r,4+q,none⟩ (.bool true)).heap[r]?=_ from hset] at hr;injection hr with hr;subst hr;rw[hwa2];simp only[Obj.pm,Array.map_setIfInBounds];rfl
  ·rw[hba _ fun e2=>e (hinj r e2)];rw[hb r e] at hr;exact h1.a.e r o hl hr
 ·rw[hA.size] at hσ;by_cases e:r=pp
  ·subst e;have:=h1.d.b σ hσ r _ hl h6;rw[show (w.setCell ⟨r,4+q,none⟩ (.bool true)).heap[r]?=_ from hset] at hr;injection hr with hr;subst hr;simp only[Obj.pm,Array.map_setIfInBounds,Obj.cells.injEq] at this ⊢;refine⟨?_,this.2⟩;rw[this.1];rfl
  ·rw[hb r e] at hr;exact h1.d.b σ hσ r o hl hr
 ·have:π.f x=x:=h1.a.d x (by have:fam.gs+5=7:=rfl;omega);have:=hinj x (this.trans e);omega
 ·obtain⟨z1,z2,z3⟩:=h2 x hx;refine⟨z1,(hba _ fun e=>z3 pp h5 (af.f h6) e.symm).trans z2,fun r h10 hr=>z3 r h10 (by rw[hA.size] at hr;exact hr)⟩
 ·obtain⟨pb,bl,Fp,Fn,nv,g,hW⟩:=h8;exact⟨pb,bl,Fp,Fn,nv,g.k (fun x hx=>hb x fun e=>h7 (e▸hW x hx)) (fun x hx=>hb x ω) (by rw[hA.size];exact yb _),hW⟩
def kl(S:PS):S.MC=0\/(S.MC=6/\S.f=true)\/(S.MC=7/\S.out=true/\S.f=false):=by
 unfold PS.MC;cases S.f <;> cases S.out <;> simp
def tS(S:PS){t:ByteArray}(ht:t.size<=16):S.Mf t=0\/S.Mf t=8\/S.Mf t=9\/S.Mf t=10\/(S.Mf t=6/\S.f=true)\/(S.Mf t=7/\S.out=true/\S.f=false):=by
 unfold PS.Mf;by_cases h:S.MC=0
 ·rw[if_neg (by simpa using h),if_neg ω];split
  ·exact .inr (.inl rfl)
  split
  ·exact .inr (.inr (.inl rfl))
  split
  ·exact .inr (.inr (.inr (.inl rfl)))
  ·exact .inl rfl
 ·rw[if_pos h];rcases kl S with h1|h1|h1
  ·exact(h h1).elim
  ·exact .inr (.inr (.inr (.inr (.inl h1))))
  ·exact .inr (.inr (.inr (.inr (.inr h1))))
abbrev Jr(c:gN):zV:=fun G cr=>Md.dY c.a c.n c.d c.b G cr
def td(c:gN):Prop:=c.a=true->∀G cr,Jr c G cr->∀i,i<c.n->(G.b i).out=true->(G.b i).f=true
def K5{c:gN}(hn:1<=c.n/\c.n<=6)(hl:c.b<=4000)(cr:Book):Hm fun G=>Jr c G cr where
 gw h:=(h.a hn).b hn.2 hl
 par h hk:=by
  obtain⟨f,h1,h2,h3⟩:=(h.a hn).d hk;exact⟨f,h1,h2,by rw[(h.a hn).n];exact h3⟩
 deliver k h:=h.deliver k
 drop k h:=h.drop k
 copy k h:=h.copy k
section
variable {c5:gN}{P0 G0:Nat}{J:zV}{L:List (Nat × Obj)}{O K:Nat->Prop}{A:World->Prop}{X:Event->Prop}{Stop:(Nat->Prop)->Goroutine->World->Prop}{w wa:World}{main:Bool}{b:Frame}{a:Act}{k:List Item}{cs:List Frame}{ops:Array Oper}{i:Nat}{rest:List Nat}{o:Oper}
def IW(v:Value)(h:Go.Pm.Way prog main K A X Stop O (G (b.at (a.put o.dst v) (.inRegion ops rest::k)) cs) w)(ho:ops[i]?=some o:=by exact rfl)(hw:Region.wanted o (yielded ops a.tmps)=true:=by exact rfl)(hk:b.kind≠.early:=by decide)
 (hr:∀wL,Rely O K A w wL->(execOp a.eval o).run prog wL=.ok (.value v) wL/\∀e∈(execOp a.eval o).events prog wL #[],Go.Pm.Ev O K e:=by exact fun wL h₁=>by (obtain⟨sO,sc⟩:=Mq.side (Mq.rely ‹Mq _ _ _ _ _ _ _› ‹∀b,b<2->_› h₁) (yY ..);have d0:=sc 0 _ rfl;have d1:=sc 1 _ rfl;have d2:=sc 2 _ rfl;have d3:=sc 3 _ rfl;have d4:=sc 4 _ rfl;simp only[yf,yd,ye] at d0 d1 d2 d3 d4;exact⟨by go_simp,by (simp[go_sem, *];first|exact .inl sO|exact⟨.inl sO,.inl sO,.inl sO,.inl sO,.inl sO⟩)⟩)):Go.Pm.Way prog main K A X Stop O (G (b.at a (.inRegion ops (i::rest)::k)) cs) w:=ag ho hw hk hr h
def Kj(v:Value)(h:Go.Pm.Way prog main K A X Stop O (G (b.at (a.put o.dst v) (.inRegion ops rest::k)) cs) w)(ho:ops[i]?=some o:=by exact rfl)(hw:Region.wanted o (yielded ops a.tmps)=true:=by exact rfl)(hk:b.kind≠.early:=by decide)
 (hr:∀wL,Rely O K A w wL->(execOp a.eval o).run prog wL=.ok (.value v) wL/\∀e∈(execOp a.eval o).events prog wL #[],Go.Pm.Ev O K e:=by exact fun wL h₁=>by (obtain⟨sP,c0,c1⟩:=Mq.cell2 (Mq.rely ‹Mq _ _ _ _ _ _ _› ‹∀b,b<2->_› h₁);exact⟨by go_simp,by (simp[go_sem, *];exact .inl sP)⟩)):Go.Pm.Way prog main K A X Stop O (G (b.at a (.inRegion ops (i::rest)::k)) cs) w:=ag ho hw hk hr h
def Mq.h(hn:1<=c5.n/\c5.n<=6)(hl:c5.b<=4000)(h:Mq c5 P0 G0 (Jr c5) L O wa)(hK:∀b,b<2->K b)(kd a b c:Int)(t:ByteArray)(ha:j7 a)(hb:j7 b)(hc:j7 c){rest:List Frame}
 (hk:∀O' wa',Mq c5 P0 G0 (Jr c5) L O' wa'->Go.Pm.Way prog true K A X Stop O' (G (cf.finish (.bool true)) rest) wa') :
 Go.Pm.Way prog true K A X Stop O (G (Frame.enter prog 57 #[pT P0 0,.agg (aP kd a b c t)] .normal) (cf::rest)) wa:=by
 refine Mq.f h hK (f:=57) rfl rfl false (args:=[.agg (aP kd a b c t)]) ς (Q:=fun v G' cr=>v=.bool true/\Jr c5 G' cr) (fun w pp gb FG G1 cr h1 h2 h3 h4=>(Ci (K5 hn hl cr) pp h1 h2 h3 h4 kd a b c t ha hb hc).mono fun e w' h=>⟨_,h.1,ς,h.2.imp fun G' h=>⟨h.1,rfl,h.2⟩⟩) fun v O5 w5 hI5=>?_;obtain rfl:v=.bool true:=by
  obtain⟨_,_,h,_⟩:=hI5.e;exact h.1
 exact hk O5 w5 (hI5.b fun _ _ h=>h.2)
end
section
variable {O K:Nat->Prop}{A:World->Prop}{X:Event->Prop}{Stop:(Nat->Prop)->Goroutine->World->Prop}{w:World}{main:Bool}{b:Frame}{a:Act}{k:List Item}{cs:List Frame}{ops:Array Oper}{i:Nat}{rest:List Nat}{o:Oper}
def wU(h:Go.Pm.Way prog main K A X Stop O (G (b.at (a.put o.dst undef) (.inRegion ops rest::k)) cs) w)(ho:ops[i]?=some o:=by exact rfl)(hw:Region.wanted o (yielded ops a.tmps)=false:=by exact rfl):Go.Pm.Way prog main K A X Stop O (G (b.at a (.inRegion ops (i::rest)::k)) cs) w:=sr ho hw h
def wW(h:Go.Pm.Way prog main K A X Stop O (G (b.at (a.put o.dst v) (.inRegion ops rest::k)) cs) w)(ho:ops[i]?=some o:=by exact rfl)(hw:Region.wanted o (yielded ops a.tmps)=true:=by exact rfl)(hk:b.kind≠.early:=by decide)
 (hr:∀wL,Rely O K A w wL->(execOp a.eval o).run prog wL=.ok (.value v) wL/\∀e∈(execOp a.eval o).events prog wL #[],Go.Pm.Ev O K e:=by exact fun wL h₁=>⟨by (go_simp;(try with_reducible rfl)),by simp[go_sem, *]⟩):Go.Pm.Way prog main K A X Stop O (G (b.at a (.inRegion ops (i::rest)::k)) cs) w:=ag ho hw hk hr h
end
variable {c5:gN}{P0 G0:Nat}{L:List (Nat × Obj)}{O K:Nat->Prop}{A:World->Prop}{X:Event->Prop}{Stop:(Nat->Prop)->Goroutine->World->Prop}{wa:World}
def DS(hn:1<=c5.n/\c5.n<=6)(hl4:c5.b<=4000)(hfair:td c5)(hA:∀w d,A w->A (w.at d))(hK:∀b,b<2->K b)(h:Mq c5 P0 G0 (Jr c5) L O wa)(kd a b c:Int)(t:ByteArray)(ha:j7 a)(hb:j7 b)(hc:j7 c)(hk10:kd≠10){rest:List Frame}
 (hk:∀O' wa',Mq c5 P0 G0 (Jr c5) L O' wa'->Go.Pm.Way prog true K A X Stop O' (G (cf.finish (.bool true)) rest) wa') :
 Go.Pm.Way prog true K A X Stop O (G (Frame.enter prog 27 #[pT P0 0,.agg #[.int .i64 kd,.int .i64 a,.int .i64 b,.int .i64 c,.string t]] .normal) (cf::rest)) wa:=by
 rw[enter_at _ Tryz.func27 rfl];simp only[Tryz.f27];walk_nrm;refine wN ?_;refine wR ?_;refine eP (f:=fun _=>.cells (aP kd a b c t) 51) rfl rfl θ (fun wg h₂=>⟨by go_simp,by simp[go_sem, *]⟩) fun wg h₂=>?_;walk_nrm;have hM:=(h.rely hK h₂).i (.cells (aP kd a b c t) 51);obtain⟨bx,hbx⟩:∃bx,bx=wg.heap.size:=⟨_,rfl⟩;rw[<-hbx] at hM ⊢;generalize wg.alloc (.cells (aP kd a b c t) 51)=w3 at hM ⊢;generalize (fun b=>O b\/b=bx)=O3 at hM ⊢;clear h h₂ hbx;refine wV (.bool false) ?_;walk_nrm;refine wN ?_;refine wN ?_;refine jw um rfl hA ?_;refine ox (m:=7) (vals:=AC bx P0 c5.n a) (I:=fun O w=>Mq c5 P0 G0 (Jr c5) ((bx,Obj.cells (aP kd a b c t) 51)::L) O w) κ ?_ ?_ O3 w3 hM
 ·intro i hi a' rest' O' w' hd ho hI hgo;obtain⟨sO,sc⟩:=hI.side (yY ..);obtain⟨sP, -, -⟩:=hI.cell2;match i,hi with
  | 0, _ =>
    have e3:a'.tmps[3]?=some (pT bx 0):=(ho 3 θ).trans ς;exact ag (v:=pT bx 1) rfl rfl θ (fun wL h₁=>⟨by simp[go_sem,Array.getD_eq_getD_getElem?,e3],by simp[go_sem,Array.getD_eq_getD_getElem?,e3]⟩) (hgo O' w' hI)
  | 1, _ =>
    have e14:a'.tmps[14]?=some (pT bx 1):=hd 0 θ 14 rfl;refine ag (v:=.int .i64 a) rfl rfl θ (fun wL h₁=>?_) (hgo O' w' hI);have c1:wL.cell? (aT bx 1)=some (.int .i64 a):=((hI.rely hK h₁).side (yY ..)).2 1 _ rfl;exact⟨by simp[go_sem,Array.getD_eq_getD_getElem?,e14,c1],by simp[go_sem,Array.getD_eq_getD_getElem?,e14,c1];exact .inl sO⟩
  | 2, _ =>
    have e0:a'.tmps[0]?=some (pT P0 0):=(ho 0 θ).trans ς;exact ag (v:=pT P0 0) rfl rfl θ (fun wL h₁=>⟨by simp[go_sem,Array.getD_eq_getD_getElem?,e0],by simp[go_sem,Array.getD_eq_getD_getElem?,e0]⟩) (hgo O' w' hI)
  | 3, _ =>
    have e16:a'.tmps[16]?=some (pT P0 0):=hd 2 θ 16 rfl;exact ag (v:=pT P0 0) rfl rfl θ (fun wL h₁=>⟨by simp[go_sem,Array.getD_eq_getD_getElem?,e16],by simp[go_sem,Array.getD_eq_getD_getElem?,e16]⟩) (hgo O' w' hI)
  | 4, _ =>
    have e17:a'.tmps[17]?=some (pT P0 0):=hd 3 θ 17 rfl;exact ag (v:=pT P0 1) rfl rfl θ (fun wL h₁=>⟨by simp[go_sem,Array.getD_eq_getD_getElem?,e17],by simp[go_sem,Array.getD_eq_getD_getElem?,e17]⟩) (hgo O' w' hI)
  | 5, _ =>
    have e18:a'.tmps[18]?=some (pT P0 1):=hd 4 θ 18 rfl;exact ag (v:=pT P0 1) rfl rfl θ (fun wL h₁=>⟨by simp[go_sem,Array.getD_eq_getD_getElem?,e18],by simp[go_sem,Array.getD_eq_getD_getElem?,e18]⟩) (hgo O' w' hI)
  | 6, _ =>
    have e19:a'.tmps[19]?=some (pT P0 1):=hd 5 θ 19 rfl;refine ag (v:=.int .i64 c5.n) rfl rfl θ (fun wL h₁=>?_) (hgo O' w' hI);obtain⟨-, -,c1⟩:=(hI.rely hK h₁).cell2;exact⟨by simp[go_sem,Array.getD_eq_getD_getElem?,e19,c1],by simp[go_sem,Array.getD_eq_getD_getElem?,e19,c1];exact .inl sP⟩
 ·intro O' w' hI l hl;have hl':=mA (L':=[[7,8]]) hl κ;rw[yu] at hl';subst hl';clear hl;simp only[AM,List.range,List.range.loop,List.foldl,dR,AC];walk_nrm;have hp:=fO a c5.n;refine wA Tryz.f34 ?_;walk_nrm;refine Mq.g hI hK (f:=34) (args:=[.int .i64 a,.int .i64 c5.n]) (v:=.int .i64 (bw a c5.n)) rfl rfl ς ς (fun w=>hp w ha hn.1 ω) fun O4 w4 hI4=>?_;have hq:=cM a hn.1;generalize bw a c5.n=q at hq ⊢;clear hI hp hM;rw[Frame.finish_at];walk_nrm;generalize hl2:(bx,Obj.cells (aP kd a b c t) 51)::L=L2 at hI4;have hI:=hI4;clear hI4;subst hl2;refine wV (.int .i64 q) ?_;walk_nrm;repeat refine wN ?_
  refine wR ?_;refine wV (pT bx 0) ?_;walk_nrm;refine IW (.int .i64 kd) ?_;walk_nrm;repeat refine wN ?_
  refine wR ?_;by_cases h5:kd=5
  ·subst h5;iterate 2 (refine wV (.bool true) ?_;walk_nrm)
   iterate 2 ((repeat refine wN ?_);refine wT ?_)
   repeat refine wN ?_
   refine wR ?_;refine wV (pT P0 0) ?_;walk_nrm;refine IW (.agg (aP 5 a b c t)) ?_;walk_nrm;refine wA Tryz.f57 ?_;walk_nrm;refine Mq.h hn hl4 hI hK 5 a b c t ha hb hc fun O5 w5 hI5=>?_;rw[Frame.finish_at];walk_nrm;refine wV (.bool true) ?_;walk_nrm;repeat refine wN ?_
   refine au rfl (fun _=>stepG_ret') ?_;exact ax rfl rfl rfl rfl rfl (hk O5 w5 (hI5.d fun x hx=>y6 _ hx))
  iterate 2 (refine wV (.bool false) ?_;walk_nrm)
  repeat refine wN ?_
  refine wF ?_;repeat refine wN ?_
  refine wR ?_;by_cases h6:kd=6
  ·subst h6;iterate 2 (refine wV (.bool true) ?_;walk_nrm)
   iterate 2 ((repeat refine wN ?_);refine wT ?_)
   repeat refine wN ?_
   refine wR ?_;refine wV (pT P0 0) ?_;walk_nrm;refine IW (.agg (aP 6 a b c t)) ?_;walk_nrm;refine wA Tryz.f57 ?_;walk_nrm;refine Mq.h hn hl4 hI hK 6 a b c t ha hb hc fun O5 w5 hI5=>?_;rw[Frame.finish_at];walk_nrm;refine wV (.bool true) ?_;walk_nrm;repeat refine wN ?_
   refine au rfl (fun _=>stepG_ret') ?_;exact ax rfl rfl rfl rfl rfl (hk O5 w5 (hI5.d fun x hx=>y6 _ hx))
  iterate 2 (refine wV (.bool false) ?_;walk_nrm)
  repeat refine wN ?_
  refine wF ?_;repeat refine wN ?_
  refine wR ?_;by_cases h7:kd=7
  ·subst h7;iterate 2 (refine wV (.bool true) ?_;walk_nrm)
   iterate 2 ((repeat refine wN ?_);refine wT ?_)
   repeat refine wN ?_
   refine wR ?_;refine wV (pT P0 0) ?_;walk_nrm;refine IW (.agg (aP 7 a b c t)) ?_;walk_nrm;refine wA Tryz.f57 ?_;walk_nrm;refine Mq.h hn hl4 hI hK 7 a b c t ha hb hc fun O5 w5 hI5=>?_;rw[Frame.finish_at];walk_nrm;refine wV (.bool true) ?_;walk_nrm;repeat refine wN ?_
   refine au rfl (fun _=>stepG_ret') ?_;exact ax rfl rfl rfl rfl rfl (hk O5 w5 (hI5.d fun x hx=>y6 _ hx))
  iterate 2 (refine wV (.bool false) ?_;walk_nrm)
  repeat refine wN ?_
  refine wF ?_;repeat refine wN ?_
  refine wR ?_;by_cases h8:kd=8
  ·subst h8;iterate 2 (refine wV (.bool true) ?_;walk_nrm)
   iterate 2 ((repeat refine wN ?_);refine wT ?_)
   repeat refine wN ?_
   refine wR ?_;refine wV (pT P0 0) ?_;walk_nrm;refine IW (.agg (aP 8 a b c t)) ?_;walk_nrm;refine wA Tryz.f57 ?_;walk_nrm;refine Mq.h hn hl4 hI hK 8 a b c t ha hb hc fun O5 w5 hI5=>?_;rw[Frame.finish_at];walk_nrm;refine wV (.bool true) ?_;walk_nrm;repeat refine wN ?_
   refine au rfl (fun _=>stepG_ret') ?_;exact ax rfl rfl rfl rfl rfl (hk O5 w5 (hI5.d fun x hx=>y6 _ hx))
  iterate 2 (refine wV (.bool false) ?_;walk_nrm)
  repeat refine wN ?_
  refine wF ?_;repeat refine wN ?_
  refine wR ?_;by_cases h9:kd=9
  ·subst h9;iterate 2 (refine wV (.bool true) ?_;walk_nrm)
   repeat refine wN ?_
   refine wT ?_;repeat refine wN ?_
   refine wR ?_;refine wV (pT P0 0) ?_;walk_nrm;refine IW (.agg (aP 9 a b c t)) ?_;walk_nrm;refine wA Tryz.f57 ?_;walk_nrm;refine Mq.h hn hl4 hI hK 9 a b c t ha hb hc fun O5 w5 hI5=>?_;rw[Frame.finish_at];walk_nrm;refine wV (.bool true) ?_;walk_nrm;repeat refine wN ?_
   refine au rfl (fun _=>stepG_ret') ?_;exact ax rfl rfl rfl rfl rfl (hk O5 w5 (hI5.d fun x hx=>y6 _ hx))
  iterate 2 (refine wV (.bool false) ?_;walk_nrm)
  repeat refine wN ?_
  refine wF ?_;repeat refine wN ?_
  refine wR ?_;by_cases hc1:kd=1
  ·subst hc1;iterate 2 (refine wV (.bool true) ?_;walk_nrm)
   repeat refine wN ?_
   refine wT ?_;repeat refine wN ?_
   refine jw um rfl hA ?_;refine ox (m:=8) (vals:=Fb bx P0 G0 q t) (I:=fun O w=>Mq c5 P0 G0 (Jr c5) ((bx,Obj.cells (aP 1 a b c t) 51)::L) O w) κ ?_ ?_ _ _ hI
   ·intro i hi a' rest' O' w' hd ho hI hgo;obtain⟨sO,sc⟩:=hI.side (yY ..);obtain⟨sP, -, -⟩:=hI.cell2;match i,hi with
    | 0, _ =>
      have e0:a'.tmps[0]?=some (pT P0 0):=(ho 0 θ).trans ς;exact ag (v:=pT P0 0) rfl rfl θ (fun wL h₁=>⟨by simp[go_sem,Array.getD_eq_getD_getElem?,e0],by simp[go_sem,Array.getD_eq_getD_getElem?,e0]⟩) (hgo O' w' hI)
    | 1, _ =>
      have e0:a'.tmps[35]?=some (pT P0 0):=hd 0 θ 35 rfl;exact ag (v:=pT P0 0) rfl rfl θ (fun wL h₁=>⟨by simp[go_sem,Array.getD_eq_getD_getElem?,e0],by simp[go_sem,Array.getD_eq_getD_getElem?,e0]⟩) (hgo O' w' hI)
    | 2, _ =>
      have e0:a'.tmps[36]?=some (pT P0 0):=hd 1 θ 36 rfl;exact ag (v:=pT P0 0) rfl rfl θ (fun wL h₁=>⟨by simp[go_sem,Array.getD_eq_getD_getElem?,e0],by simp[go_sem,Array.getD_eq_getD_getElem?,e0]⟩) (hgo O' w' hI)
    | 3, _ =>
      have e0:a'.tmps[37]?=some (pT P0 0):=hd 2 θ 37 rfl;refine ag (v:=pT G0 0) rfl rfl θ (fun wL h₁=>?_) (hgo O' w' hI);obtain⟨-,c1, -⟩:=(hI.rely hK h₁).cell2;exact⟨by simp[go_sem,Array.getD_eq_getD_getElem?,e0,c1],by simp[go_sem,Array.getD_eq_getD_getElem?,e0,c1];exact .inl sP⟩
    | 4, _ =>
      have e0:a'.tmps[5]?=some (.int .i64 q):=(ho 5 θ).trans ς;exact ag (v:=.int .i64 q) rfl rfl θ (fun wL h₁=>⟨by simp[go_sem,Array.getD_eq_getD_getElem?,e0],by simp[go_sem,Array.getD_eq_getD_getElem?,e0]⟩) (hgo O' w' hI)
    | 5, _ =>
      have e0:a'.tmps[3]?=some (pT bx 0):=(ho 3 θ).trans ς;exact ag (v:=pT bx 4) rfl rfl θ (fun wL h₁=>⟨by simp[go_sem,Array.getD_eq_getD_getElem?,e0],by simp[go_sem,Array.getD_eq_getD_getElem?,e0]⟩) (hgo O' w' hI)
    | 6, _ =>
      have e0:a'.tmps[40]?=some (pT bx 4):=hd 5 θ 40 rfl;refine ag (v:=.string t) rfl rfl θ (fun wL h₁=>?_) (hgo O' w' hI);have c1:wL.cell? (aT bx 4)=some (.string t):=((hI.rely hK h₁).side (yY ..)).2 4 _ rfl;exact⟨by simp[go_sem,Array.getD_eq_getD_getElem?,e0,c1],by simp[go_sem,Array.getD_eq_getD_getElem?,e0,c1];exact .inl sO⟩
    | 7, _ =>
      have e0:a'.tmps[41]?=some (.string t):=hd 6 θ 41 rfl;refine wA Tryz.f58 ?_;have ea:(#[Operand.tmp 41,Operand.const (Value.int .i64 16)].map a'.eval)=[Value.string t,.int .i64 16].toArray:=by simp[Act.eval,Array.getD_eq_getD_getElem?,e0]
      rw[ea];exact Mq.g hI hK (f:=58) (args:=[.string t,.int .i64 16]) (v:=.string (xU t 16)) rfl rfl ς ς (fun w=>Iy t 16 w) fun O5 w5 hI5=>by
       rw[Frame.finish_at];exact hgo O5 w5 hI5
   ·intro O' w' hI l hl;have hl':=mA (L':=[[8,9]]) hl κ;rw[yu] at hl';subst hl';clear hl;simp only[AM,List.range,List.range.loop,List.foldl,dR,Fb];walk_nrm;have hts:=BQ t 16;generalize xU t 16=t2 at hts ⊢;obtain⟨G1,cr,hR,hI⟩:=hI.e;have hq0:(0:Int)<=(q:Int):=ω;have hq6:(q:Int)<6:=ω;refine wA Tryz.f56 ?_;walk_nrm;refine Mq.f hI hK (f:=56) rfl rfl true (args:=[.int .i64 q,.string t2]) ς (Q:=fun v G' cr'=>v=.int .i64 ((G1.b q).Mf t2)/\G'=G1.cast q t2/\cr'=cr) (fun w pp gb FG G' cr' h1 h2 h3 h4=>?_) fun v O5 w5 hI5=>?_
    ·obtain⟨rfl,rfl⟩:=h4;exact(Aj ((hR.a hn).b hn.2 hl4) h3 (by rw[(hR.a hn).n];exact hq) t2 hts fun _=>(hR.a hn).c hq t2).mono fun e w' h=>⟨_,h.1,ς,_,h.2,rfl,rfl,rfl⟩
    ·obtain⟨_,_,⟨rfl, -, -⟩, -⟩:=hI5.e;have hI6:=(hI5.b (J':=fun G' cr'=>G'=G1.cast q t2/\cr'=cr) fun _ _ h=>h.2).d (L':=L) fun x hx=>y6 _ hx;clear hI hI5;have hI:=hI6;clear hI6;have hR2:Jr c5 (G1.cast q t2) cr:=hR.cast q t2 hq hts;rcases tS (G1.b q) hts with e|e|e|e|⟨e,h6⟩|⟨e,h7,h8⟩ <;> rw[e,Frame.finish_at] <;> walk_nrm
     ·repeat first|(refine wU ?_;walk_nrm)|(refine wW ?_;walk_nrm)
      repeat refine wN ?_
      refine wR ?_;repeat first|(refine wU ?_;walk_nrm)|(refine wW ?_;walk_nrm)
      repeat refine wN ?_
      refine au rfl (fun _=>stepG_ret') ?_;exact ax rfl rfl rfl rfl rfl (hk _ _ (hI.b fun _ _ h=>by obtain⟨rfl,rfl⟩:=h;exact hR2))
     ·repeat first|(refine wU ?_;walk_nrm)|(refine wW ?_;walk_nrm)
      repeat refine wN ?_
      refine wR ?_;repeat first|(refine wU ?_;walk_nrm)|(refine wW ?_;walk_nrm)
      repeat refine wN ?_
      refine au rfl (fun _=>stepG_ret') ?_;exact ax rfl rfl rfl rfl rfl (hk _ _ (hI.b fun _ _ h=>by obtain⟨rfl,rfl⟩:=h;exact hR2))
     ·repeat first|(refine wU ?_;walk_nrm)|(refine wW ?_;walk_nrm)
      repeat refine wN ?_
      refine wR ?_;repeat first|(refine wU ?_;walk_nrm)|(refine wW ?_;walk_nrm)
      repeat refine wN ?_
      refine au rfl (fun _=>stepG_ret') ?_;exact ax rfl rfl rfl rfl rfl (hk _ _ (hI.b fun _ _ h=>by obtain⟨rfl,rfl⟩:=h;exact hR2))
     ·repeat first|(refine wU ?_;walk_nrm)|(refine wW ?_;walk_nrm)
      repeat refine wN ?_
      refine wR ?_;repeat first|(refine wU ?_;walk_nrm)|(refine wW ?_;walk_nrm)
      repeat refine wN ?_
      refine au rfl (fun _=>stepG_ret') ?_;exact ax rfl rfl rfl rfl rfl (hk _ _ (hI.b fun _ _ h=>by obtain⟨rfl,rfl⟩:=h;exact hR2))
     ·have hcq:cr q=true:=by rw[<-(hR.a hn).crashed q];exact h6
      repeat first|(refine wU ?_;walk_nrm)|(refine wW ?_;walk_nrm)
      repeat refine wN ?_
      refine wR ?_;iterate 22 (first|(refine wU ?_;walk_nrm)|(refine wW ?_;walk_nrm))
      refine ag (v:=.pointer (some ⟨P0,4+q,none⟩)) rfl rfl θ (fun wL h₁=>⟨by go_simp,by simp[go_sem,events_indexAt_array 42 4 6 ⟨P0,4,none⟩ .i64 (q:Int) Tryz.underlying42 ⟨hq0,hq6⟩]⟩) ?_;walk_nrm;refine ag (v:=.bool true) rfl rfl θ (fun wL h₁=>?_) ?_
      ·obtain⟨sP, -, -,c4, -⟩:=(hI.rely hK h₁).a;have c5:=c4 q ω;rw[hcq] at c5;exact⟨by go_simp,by simp[go_sem,c5];exact .inl sP⟩
      walk_nrm;repeat first|(refine wU ?_;walk_nrm)|(refine wW ?_;walk_nrm)
      repeat refine wN ?_
      refine au rfl (fun _=>stepG_ret') ?_;exact ax rfl rfl rfl rfl rfl (hk _ _ (hI.b fun _ _ h=>by obtain⟨rfl,rfl⟩:=h;exact hR2))
     ·have hf:c5.a=false:=by
       cases hf:c5.a with
       |false=>rfl
       | true =>
         have:=hfair hf G1 cr hR q hq h7;rw[h8] at this;cases this
      repeat first|(refine wU ?_;walk_nrm)|(refine wW ?_;walk_nrm)
      repeat refine wN ?_
      refine wR ?_;iterate 33 (first|(refine wU ?_;walk_nrm)|(refine wW ?_;walk_nrm))
      refine ag (v:=.bool false) rfl rfl θ (fun wL h₁=>?_) ?_
      ·obtain⟨sP, -, -, -,c10⟩:=(hI.rely hK h₁).a;rw[hf] at c10;exact⟨by go_simp,by simp[go_sem,c10];exact .inl sP⟩
      walk_nrm;repeat first|(refine wU ?_;walk_nrm)|(refine wW ?_;walk_nrm)
      repeat refine wN ?_
      refine au rfl (fun _=>stepG_ret') ?_;exact ax rfl rfl rfl rfl rfl (hk _ _ (hI.b fun _ _ h=>by obtain⟨rfl,rfl⟩:=h;exact hR2))
  iterate 2 (refine wV (.bool false) ?_;walk_nrm)
  repeat refine wN ?_
  refine wF ?_;repeat refine wN ?_
  refine wR ?_;by_cases hc2:kd=2
  ·subst hc2;iterate 2 (refine wV (.bool true) ?_;walk_nrm)
   repeat refine wN ?_
   refine wT ?_;repeat refine wN ?_
   refine wR ?_;iterate 3 (refine wV (pT P0 0) ?_;walk_nrm)
   refine Kj (pT G0 0) ?_;walk_nrm;refine wV (.int .i64 q) ?_;walk_nrm;refine wA Tryz.f40 ?_;walk_nrm;obtain⟨G1,cr,hR,hI⟩:=hI.e;have hq0:(0:Int)<=(q:Int):=ω;have hq6:(q:Int)<6:=ω;refine Mq.f hI hK (f:=40) rfl rfl true (args:=[.int .i64 q]) ς (Q:=fun v G' cr'=>v=.int .i64 (G1.b q).MC/\G'=G1.tick q/\cr'=cr) (fun w pp gb FG G' cr' h1 h2 h3 h4=>?_) fun v O5 w5 hI5=>?_
   ·obtain⟨rfl,rfl⟩:=h4;exact(Gf ((hR.a hn).b hn.2 hl4) h3 (by rw[(hR.a hn).n];exact hq)).mono fun e w' h=>⟨_,h.1,ς,_,h.2,rfl,rfl,rfl⟩
   ·obtain⟨_,_,⟨rfl, -, -⟩, -⟩:=hI5.e;have hI6:=(hI5.b (J':=fun G' cr'=>G'=G1.tick q/\cr'=cr) fun _ _ h=>h.2).d (L':=L) fun x hx=>y6 _ hx;clear hI hI5;have hI:=hI6;clear hI6;have hR2:Jr c5 (G1.tick q) cr:=hR.tick q hq;rcases kl (G1.b q) with e|⟨e,h6⟩|⟨e,h7,h8⟩ <;> rw[e,Frame.finish_at] <;> walk_nrm
    ·repeat first|(refine wU ?_;walk_nrm)|(refine wW ?_;walk_nrm)
     repeat refine wN ?_
     refine wR ?_;repeat first|(refine wU ?_;walk_nrm)|(refine wW ?_;walk_nrm)
     repeat refine wN ?_
     refine au rfl (fun _=>stepG_ret') ?_;exact ax rfl rfl rfl rfl rfl (hk _ _ (hI.b fun _ _ h=>by obtain⟨rfl,rfl⟩:=h;exact hR2))
    ·have hcq:cr q=true:=by rw[<-(hR.a hn).crashed q];exact h6
     repeat first|(refine wU ?_;walk_nrm)|(refine wW ?_;walk_nrm)
     repeat refine wN ?_
     refine wR ?_;iterate 10 (first|(refine wU ?_;walk_nrm)|(refine wW ?_;walk_nrm))
     refine ag (v:=.pointer (some ⟨P0,4+q,none⟩)) rfl rfl θ (fun wL h₁=>⟨by go_simp,by simp[go_sem,events_indexAt_array 42 4 6 ⟨P0,4,none⟩ .i64 (q:Int) Tryz.underlying42 ⟨hq0,hq6⟩]⟩) ?_;walk_nrm;refine ag (v:=.bool true) rfl rfl θ (fun wL h₁=>?_) ?_
     ·obtain⟨sP, -, -,c4, -⟩:=(hI.rely hK h₁).a;have c5:=c4 q ω;rw[hcq] at c5;exact⟨by go_simp,by simp[go_sem,c5];exact .inl sP⟩
     walk_nrm;repeat first|(refine wU ?_;walk_nrm)|(refine wW ?_;walk_nrm)
     repeat refine wN ?_
     refine au rfl (fun _=>stepG_ret') ?_;exact ax rfl rfl rfl rfl rfl (hk _ _ (hI.b fun _ _ h=>by obtain⟨rfl,rfl⟩:=h;exact hR2))
    ·have hf:c5.a=false:=by
      cases hf:c5.a with
      |false=>rfl
      | true =>
        have:=hfair hf G1 cr hR q hq h7;rw[h8] at this;cases this
     repeat first|(refine wU ?_;walk_nrm)|(refine wW ?_;walk_nrm)
     repeat refine wN ?_
     refine wR ?_;iterate 21 (first|(refine wU ?_;walk_nrm)|(refine wW ?_;walk_nrm))
     refine ag (v:=.bool false) rfl rfl θ (fun wL h₁=>?_) ?_
     ·obtain⟨sP, -, -, -,c10⟩:=(hI.rely hK h₁).a;rw[hf] at c10;exact⟨by go_simp,by simp[go_sem,c10];exact .inl sP⟩
     walk_nrm;repeat first|(refine wU ?_;walk_nrm)|(refine wW ?_;walk_nrm)
     repeat refine wN ?_
     refine au rfl (fun _=>stepG_ret') ?_;exact ax rfl rfl rfl rfl rfl (hk _ _ (hI.b fun _ _ h=>by obtain⟨rfl,rfl⟩:=h;exact hR2))
  iterate 2 (refine wV (.bool false) ?_;walk_nrm)
  repeat refine wN ?_
  refine wF ?_;repeat refine wN ?_
  refine wR ?_;by_cases hc4:kd=4
  ·subst hc4;iterate 2 (refine wV (.bool true) ?_;walk_nrm)
   repeat refine wN ?_
   refine wT ?_;repeat refine wN ?_
   refine wR ?_;iterate 3 (refine wV (pT P0 0) ?_;walk_nrm)
   refine Kj (pT G0 0) ?_;walk_nrm;refine wV (.int .i64 q) ?_;walk_nrm;refine wA Tryz.f39 ?_;walk_nrm;obtain⟨G1,cr,hR,hI⟩:=hI.e;have hq0:(0:Int)<=(q:Int):=ω;have hq6:(q:Int)<6:=ω;refine Mq.f hI hK (f:=39) rfl rfl true (args:=[.int .i64 q]) ς (Q:=fun v G' cr'=>v=.int .i64 (if (G1.b q).f then 6 else 0)/\G'=G1.crash q/\cr'=cr) (fun w pp gb FG G' cr' h1 h2 h3 h4=>?_) fun v O5 w5 hI5=>?_
   ·obtain⟨rfl,rfl⟩:=h4;exact(Et h3 (by rw[(hR.a hn).n];exact hq)).mono fun e w' h=>⟨_,h.1,ς,_,h.2,rfl,rfl,rfl⟩
   ·obtain⟨_,_,⟨rfl, -, -⟩, -⟩:=hI5.e;have hI6:=(hI5.b (J':=fun G' cr'=>G'=G1.crash q/\cr'=cr) fun _ _ h=>h.2).d (L':=L) fun x hx=>y6 _ hx;clear hI hI5;have hI:=hI6;clear hI6;have hR2:Jr c5 (G1.crash q) (cr.put q):=hR.crash q hq;rw[(hR.a hn).crashed q];cases hcq:cr q
    ·simp only[yH,if_false];rw[Frame.finish_at];walk_nrm;repeat first|(refine wU ?_;walk_nrm)|(refine wW ?_;walk_nrm)
     repeat refine wN ?_
     refine wR ?_;iterate 4 (first|(refine wU ?_;walk_nrm)|(refine wW ?_;walk_nrm))
     refine ag (v:=.pointer (some ⟨P0,4+q,none⟩)) rfl rfl θ (fun wL h₁=>⟨by go_simp,by simp[go_sem,events_indexAt_array 42 4 6 ⟨P0,4,none⟩ .i64 (q:Int) Tryz.underlying42 ⟨hq0,hq6⟩]⟩) ?_;walk_nrm;refine ag (v:=.bool false) rfl rfl θ (fun wL h₁=>?_) ?_
     ·obtain⟨sP, -, -,c4, -⟩:=(hI.rely hK h₁).a;have c5:=c4 q ω;rw[hcq] at c5;exact⟨by go_simp,by simp[go_sem,c5];exact .inl sP⟩
     walk_nrm;repeat first|(refine wU ?_;walk_nrm)|(refine wW ?_;walk_nrm)
     repeat refine wN ?_
     refine wR ?_;iterate 4 (first|(refine wU ?_;walk_nrm)|(refine wW ?_;walk_nrm))
     refine ag (v:=.pointer (some ⟨P0,4+q,none⟩)) rfl rfl θ (fun wL h₁=>⟨by go_simp,by simp[go_sem,events_indexAt_array 42 4 6 ⟨P0,4,none⟩ .i64 (q:Int) Tryz.underlying42 ⟨hq0,hq6⟩]⟩) ?_;walk_nrm;refine j3 (ad:=⟨P0,4+q,none⟩) (v:=.bool true) rfl rfl θ hI.a.1 (fun wL h₁=>?_) fun wL h₁=>?_
     ·have c5:=(hI.rely hK h₁).a.2.2.2.1 q ω;have hfz:=(hI.rely hK h₁).c (4+q);exact⟨by go_simp,by simp[go_sem,events_store _ _ _ _ (Value.bool true) _ rfl,c5,hfz]⟩
     have hI7:=(hI.rely hK h₁).j (q:=q) ω;clear hI;have hI:=hI7;clear hI7;walk_nrm;repeat refine wN ?_
     refine wR ?_;repeat first|(refine wU ?_;walk_nrm)|(refine wW ?_;walk_nrm)
     repeat refine wN ?_
     refine au rfl (fun _=>stepG_ret') ?_;exact ax rfl rfl rfl rfl rfl (hk _ _ (hI.b fun _ _ h=>by obtain⟨rfl,rfl⟩:=h;exact hR2))
    ·simp only[if_true];rw[Frame.finish_at];walk_nrm;repeat first|(refine wU ?_;walk_nrm)|(refine wW ?_;walk_nrm)
     repeat refine wN ?_
     refine wR ?_;iterate 4 (first|(refine wU ?_;walk_nrm)|(refine wW ?_;walk_nrm))
     refine ag (v:=.pointer (some ⟨P0,4+q,none⟩)) rfl rfl θ (fun wL h₁=>⟨by go_simp,by simp[go_sem,events_indexAt_array 42 4 6 ⟨P0,4,none⟩ .i64 (q:Int) Tryz.underlying42 ⟨hq0,hq6⟩]⟩) ?_;walk_nrm;refine ag (v:=.bool true) rfl rfl θ (fun wL h₁=>?_) ?_
     ·obtain⟨sP, -, -,c4, -⟩:=(hI.rely hK h₁).a;have c5:=c4 q ω;rw[hcq] at c5;exact⟨by go_simp,by simp[go_sem,c5];exact .inl sP⟩
     walk_nrm;repeat first|(refine wU ?_;walk_nrm)|(refine wW ?_;walk_nrm)
     repeat refine wN ?_
     refine wR ?_;iterate 4 (first|(refine wU ?_;walk_nrm)|(refine wW ?_;walk_nrm))
     refine ag (v:=.pointer (some ⟨P0,4+q,none⟩)) rfl rfl θ (fun wL h₁=>⟨by go_simp,by simp[go_sem,events_indexAt_array 42 4 6 ⟨P0,4,none⟩ .i64 (q:Int) Tryz.underlying42 ⟨hq0,hq6⟩]⟩) ?_;walk_nrm;refine j3 (ad:=⟨P0,4+q,none⟩) (v:=.bool true) rfl rfl θ hI.a.1 (fun wL h₁=>?_) fun wL h₁=>?_
     ·have c5:=(hI.rely hK h₁).a.2.2.2.1 q ω;have hfz:=(hI.rely hK h₁).c (4+q);exact⟨by go_simp,by simp[go_sem,events_store _ _ _ _ (Value.bool true) _ rfl,c5,hfz]⟩
     have hI7:=(hI.rely hK h₁).j (q:=q) ω;clear hI;have hI:=hI7;clear hI7;walk_nrm;repeat refine wN ?_
     refine wR ?_;repeat first|(refine wU ?_;walk_nrm)|(refine wW ?_;walk_nrm)
     repeat refine wN ?_
     refine au rfl (fun _=>stepG_ret') ?_;exact ax rfl rfl rfl rfl rfl (hk _ _ (hI.b fun _ _ h=>by obtain⟨rfl,rfl⟩:=h;exact hR2))
  iterate 2 (refine wV (.bool false) ?_;walk_nrm)
  repeat refine wN ?_
  refine wF ?_;repeat refine wN ?_
  refine wR ?_;by_cases hc3:kd=3
  ·subst hc3;iterate 2 (refine wV (.bool true) ?_;walk_nrm)
   repeat refine wN ?_
   refine wT ?_;repeat refine wN ?_
   refine jw um rfl hA ?_;refine ox (m:=7) (vals:=Fc bx P0 c5.n b) (I:=fun O w=>Mq c5 P0 G0 (Jr c5) ((bx,Obj.cells (aP 3 a b c t) 51)::L) O w) κ ?_ ?_ _ _ hI
   ·intro i hi a' rest' O' w' hd ho hI hgo;obtain⟨sO,sc⟩:=hI.side (yY ..);obtain⟨sP, -, -⟩:=hI.cell2;match i,hi with
    | 0, _ =>
      have e3:a'.tmps[3]?=some (pT bx 0):=(ho 3 θ).trans ς;exact ag (v:=pT bx 2) rfl rfl θ (fun wL h₁=>⟨by simp[go_sem,Array.getD_eq_getD_getElem?,e3],by simp[go_sem,Array.getD_eq_getD_getElem?,e3]⟩) (hgo O' w' hI)
    | 1, _ =>
      have e14:a'.tmps[148]?=some (pT bx 2):=hd 0 θ 148 rfl;refine ag (v:=.int .i64 b) rfl rfl θ (fun wL h₁=>?_) (hgo O' w' hI);have c1:wL.cell? (aT bx 2)=some (.int .i64 b):=((hI.rely hK h₁).side (yY ..)).2 2 _ rfl;exact⟨by simp[go_sem,Array.getD_eq_getD_getElem?,e14,c1],by simp[go_sem,Array.getD_eq_getD_getElem?,e14,c1];exact .inl sO⟩
    | 2, _ =>
      have e0:a'.tmps[0]?=some (pT P0 0):=(ho 0 θ).trans ς;exact ag (v:=pT P0 0) rfl rfl θ (fun wL h₁=>⟨by simp[go_sem,Array.getD_eq_getD_getElem?,e0],by simp[go_sem,Array.getD_eq_getD_getElem?,e0]⟩) (hgo O' w' hI)
    | 3, _ =>
      have e16:a'.tmps[150]?=some (pT P0 0):=hd 2 θ 150 rfl;exact ag (v:=pT P0 0) rfl rfl θ (fun wL h₁=>⟨by simp[go_sem,Array.getD_eq_getD_getElem?,e16],by simp[go_sem,Array.getD_eq_getD_getElem?,e16]⟩) (hgo O' w' hI)
    | 4, _ =>
      have e17:a'.tmps[151]?=some (pT P0 0):=hd 3 θ 151 rfl;exact ag (v:=pT P0 1) rfl rfl θ (fun wL h₁=>⟨by simp[go_sem,Array.getD_eq_getD_getElem?,e17],by simp[go_sem,Array.getD_eq_getD_getElem?,e17]⟩) (hgo O' w' hI)
    | 5, _ =>
      have e18:a'.tmps[152]?=some (pT P0 1):=hd 4 θ 152 rfl;exact ag (v:=pT P0 1) rfl rfl θ (fun wL h₁=>⟨by simp[go_sem,Array.getD_eq_getD_getElem?,e18],by simp[go_sem,Array.getD_eq_getD_getElem?,e18]⟩) (hgo O' w' hI)
    | 6, _ =>
      have e19:a'.tmps[153]?=some (pT P0 1):=hd 5 θ 153 rfl;refine ag (v:=.int .i64 c5.n) rfl rfl θ (fun wL h₁=>?_) (hgo O' w' hI);obtain⟨-, -,c1⟩:=(hI.rely hK h₁).cell2;exact⟨by simp[go_sem,Array.getD_eq_getD_getElem?,e19,c1],by simp[go_sem,Array.getD_eq_getD_getElem?,e19,c1];exact .inl sP⟩
   ·intro O' w' hI l hl;have hl':=mA (L':=[[7,8]]) hl κ;rw[yu] at hl';subst hl';clear hl;simp only[AM,List.range,List.range.loop,List.foldl,dR,Fc];walk_nrm;have hp:=fO b c5.n;refine wA Tryz.f34 ?_;walk_nrm;refine Mq.g hI hK (f:=34) (args:=[.int .i64 b,.int .i64 c5.n]) (v:=.int .i64 (bw b c5.n)) rfl rfl ς ς (fun w=>hp w hb hn.1 ω) fun O4 w4 hI4=>?_;have hr:=cM b hn.1;generalize bw b c5.n=r at hr ⊢;have hr0:(0:Int)<=(r:Int):=ω;have hr6:(r:Int)<6:=ω;clear hI hp;rw[Frame.finish_at];walk_nrm;have hI:=hI4;clear hI4;refine wV (.int .i64 r) ?_;walk_nrm;obtain⟨G1,cr,hR,hI⟩:=hI.e;have hq0:(0:Int)<=(q:Int):=ω;have hq6:(q:Int)<6:=ω;repeat refine wN ?_
    refine wR ?_;iterate 3 (first|(refine wU ?_;walk_nrm)|(refine wW ?_;walk_nrm))
    cases hf:c5.a
    ·refine ag (v:=.bool false) rfl rfl θ (fun wL h₁=>?_) ?_
     ·obtain⟨sP, -, -, -,c10⟩:=(hI.rely hK h₁).a;rw[hf] at c10;exact⟨by go_simp,by simp[go_sem,c10];exact .inl sP⟩
     walk_nrm;repeat first|(refine wU ?_;walk_nrm)|(refine wW ?_;walk_nrm)
     obtain⟨G2,hG2⟩:∃G2,G2=G1:=⟨_,rfl⟩;have hR2:Jr c5 (G1.suspect q r) cr:=hR.suspect q r hq hr (fun h=>by rw[hf] at h;cases h);repeat refine wN ?_
     refine wF ?_;repeat refine wN ?_
     refine wR ?_;iterate 3 (first|(refine wU ?_;walk_nrm)|(refine wW ?_;walk_nrm))
     refine Kj (pT G0 0) ?_;walk_nrm;iterate 2 (first|(refine wU ?_;walk_nrm)|(refine wW ?_;walk_nrm))
     refine wA Tryz.f32 ?_;walk_nrm;refine Mq.f hI hK (f:=32) rfl rfl true (args:=[.int .i64 q,.int .i64 r]) ς (Q:=fun v G' cr'=>v=.int .i64 (if r=q then 5 else (G1.b q).MC)/\G'=G1.suspect q r/\cr'=cr) (fun w pp gb FG G' cr' h1 h2 h3 h4=>?_) fun v O5 w5 hI5=>?_
     ·obtain⟨rfl,rfl⟩:=h4;exact(pQ ((hR.a hn).b hn.2 hl4) h3 (by rw[(hR.a hn).n];exact hq) (by rw[(hR.a hn).n];exact hr)).mono fun e w' h=>⟨_,h.1,ς,_,h.2,rfl,rfl,rfl⟩
     ·obtain⟨_,_,⟨rfl, -, -⟩, -⟩:=hI5.e;have hI6:=(hI5.b (J':=fun G' cr'=>G'=G1.suspect q r/\cr'=cr) fun _ _ h=>h.2).d (L':=L) fun x hx=>y6 _ hx;clear hI hI5;have hI:=hI6;clear hI6;by_cases hrq:r=q
      ·subst hrq;rw[if_pos rfl,Frame.finish_at];walk_nrm;repeat first|(refine wU ?_;walk_nrm)|(refine wW ?_;walk_nrm)
       repeat refine wN ?_
       refine wR ?_;repeat first|(refine wU ?_;walk_nrm)|(refine wW ?_;walk_nrm)
       repeat refine wN ?_
       refine au rfl (fun _=>stepG_ret') ?_;exact ax rfl rfl rfl rfl rfl (hk _ _ (hI.b fun _ _ h=>by obtain⟨rfl,rfl⟩:=h;exact hR2))
      ·rw[if_neg hrq];rcases kl (G1.b q) with e|⟨e,h6⟩|⟨e,h7,h8⟩ <;> rw[e,Frame.finish_at] <;> walk_nrm
       ·repeat first|(refine wU ?_;walk_nrm)|(refine wW ?_;walk_nrm)
        repeat refine wN ?_
        refine wR ?_;repeat first|(refine wU ?_;walk_nrm)|(refine wW ?_;walk_nrm)
        repeat refine wN ?_
        refine au rfl (fun _=>stepG_ret') ?_;exact ax rfl rfl rfl rfl rfl (hk _ _ (hI.b fun _ _ h=>by obtain⟨rfl,rfl⟩:=h;exact hR2))
       ·have hcq:cr q=true:=by rw[<-(hR.a hn).crashed q];exact h6
        repeat first|(refine wU ?_;walk_nrm)|(refine wW ?_;walk_nrm)
        repeat refine wN ?_
        refine wR ?_;iterate 19 (first|(refine wU ?_;walk_nrm)|(refine wW ?_;walk_nrm))
        refine ag (v:=.pointer (some ⟨P0,4+q,none⟩)) rfl rfl θ (fun wL h₁=>⟨by go_simp,by simp[go_sem,events_indexAt_array 42 4 6 ⟨P0,4,none⟩ .i64 (q:Int) Tryz.underlying42 ⟨hq0,hq6⟩]⟩) ?_;walk_nrm;refine ag (v:=.bool true) rfl rfl θ (fun wL h₁=>?_) ?_
        ·obtain⟨sP, -, -,c4, -⟩:=(hI.rely hK h₁).a;have c5:=c4 q ω;rw[hcq] at c5;exact⟨by go_simp,by simp[go_sem,c5];exact .inl sP⟩
        walk_nrm;repeat first|(refine wU ?_;walk_nrm)|(refine wW ?_;walk_nrm)
        repeat refine wN ?_
        refine au rfl (fun _=>stepG_ret') ?_;exact ax rfl rfl rfl rfl rfl (hk _ _ (hI.b fun _ _ h=>by obtain⟨rfl,rfl⟩:=h;exact hR2))
       ·repeat first|(refine wU ?_;walk_nrm)|(refine wW ?_;walk_nrm)
        repeat refine wN ?_
        refine wR ?_;iterate 30 (first|(refine wU ?_;walk_nrm)|(refine wW ?_;walk_nrm))
        refine ag (v:=.bool false) rfl rfl θ (fun wL h₁=>?_) ?_
        ·obtain⟨sP, -, -, -,c10⟩:=(hI.rely hK h₁).a;rw[hf] at c10;exact⟨by go_simp,by simp[go_sem,c10];exact .inl sP⟩
        walk_nrm;repeat first|(refine wU ?_;walk_nrm)|(refine wW ?_;walk_nrm)
        repeat refine wN ?_
        refine au rfl (fun _=>stepG_ret') ?_;exact ax rfl rfl rfl rfl rfl (hk _ _ (hI.b fun _ _ h=>by obtain⟨rfl,rfl⟩:=h;exact hR2))
    ·refine ag (v:=.bool true) rfl rfl θ (fun wL h₁=>?_) ?_
     ·obtain⟨sP, -, -, -,c10⟩:=(hI.rely hK h₁).a;rw[hf] at c10;exact⟨by go_simp,by simp[go_sem,c10];exact .inl sP⟩
     walk_nrm;iterate 5 (first|(refine wU ?_;walk_nrm)|(refine wW ?_;walk_nrm))
     cases hcr:cr r
     ·refine ag (v:=.pointer (some ⟨P0,4+r,none⟩)) rfl rfl θ (fun wL h₁=>⟨by go_simp,by simp[go_sem,events_indexAt_array 42 4 6 ⟨P0,4,none⟩ .i64 (r:Int) Tryz.underlying42 ⟨hr0,hr6⟩]⟩) ?_;walk_nrm;refine ag (v:=.bool false) rfl rfl θ (fun wL h₁=>?_) ?_
      ·obtain⟨sP, -, -,c4, -⟩:=(hI.rely hK h₁).a;have c5:=c4 r ω;rw[hcr] at c5;exact⟨by go_simp,by simp[go_sem,c5];exact .inl sP⟩
      walk_nrm;repeat first|(refine wU ?_;walk_nrm)|(refine wW ?_;walk_nrm)
      repeat refine wN ?_
      refine wT ?_;repeat refine wN ?_
      refine wR ?_;refine wV (.bool true) ?_;walk_nrm;repeat refine wN ?_
      refine au rfl (fun _=>stepG_ret') ?_;exact ax rfl rfl rfl rfl rfl (hk _ _ ((hI.b fun _ _ h=>by obtain⟨rfl,rfl⟩:=h;exact hR).d fun x hx=>y6 _ hx))
     ·refine ag (v:=.pointer (some ⟨P0,4+r,none⟩)) rfl rfl θ (fun wL h₁=>⟨by go_simp,by simp[go_sem,events_indexAt_array 42 4 6 ⟨P0,4,none⟩ .i64 (r:Int) Tryz.underlying42 ⟨hr0,hr6⟩]⟩) ?_;walk_nrm;refine ag (v:=.bool true) rfl rfl θ (fun wL h₁=>?_) ?_
      ·obtain⟨sP, -, -,c4, -⟩:=(hI.rely hK h₁).a;have c5:=c4 r ω;rw[hcr] at c5;exact⟨by go_simp,by simp[go_sem,c5];exact .inl sP⟩
      walk_nrm;repeat first|(refine wU ?_;walk_nrm)|(refine wW ?_;walk_nrm)
      obtain⟨G2,hG2⟩:∃G2,G2=G1:=⟨_,rfl⟩;have hR2:Jr c5 (G1.suspect q r) cr:=hR.suspect q r hq hr (fun _=>hcr);repeat refine wN ?_
      refine wF ?_;repeat refine wN ?_
      refine wR ?_;iterate 3 (first|(refine wU ?_;walk_nrm)|(refine wW ?_;walk_nrm))
      refine Kj (pT G0 0) ?_;walk_nrm;iterate 2 (first|(refine wU ?_;walk_nrm)|(refine wW ?_;walk_nrm))
      refine wA Tryz.f32 ?_;walk_nrm;refine Mq.f hI hK (f:=32) rfl rfl true (args:=[.int .i64 q,.int .i64 r]) ς (Q:=fun v G' cr'=>v=.int .i64 (if r=q then 5 else (G1.b q).MC)/\G'=G1.suspect q r/\cr'=cr) (fun w pp gb FG G' cr' h1 h2 h3 h4=>?_) fun v O5 w5 hI5=>?_
      ·obtain⟨rfl,rfl⟩:=h4;exact(pQ ((hR.a hn).b hn.2 hl4) h3 (by rw[(hR.a hn).n];exact hq) (by rw[(hR.a hn).n];exact hr)).mono fun e w' h=>⟨_,h.1,ς,_,h.2,rfl,rfl,rfl⟩
      ·obtain⟨_,_,⟨rfl, -, -⟩, -⟩:=hI5.e;have hI6:=(hI5.b (J':=fun G' cr'=>G'=G1.suspect q r/\cr'=cr) fun _ _ h=>h.2).d (L':=L) fun x hx=>y6 _ hx;clear hI hI5;have hI:=hI6;clear hI6;by_cases hrq:r=q
       ·subst hrq;rw[if_pos rfl,Frame.finish_at];walk_nrm;repeat first|(refine wU ?_;walk_nrm)|(refine wW ?_;walk_nrm)
        repeat refine wN ?_
        refine wR ?_;repeat first|(refine wU ?_;walk_nrm)|(refine wW ?_;walk_nrm)
        repeat refine wN ?_
        refine au rfl (fun _=>stepG_ret') ?_;exact ax rfl rfl rfl rfl rfl (hk _ _ (hI.b fun _ _ h=>by obtain⟨rfl,rfl⟩:=h;exact hR2))
       ·rw[if_neg hrq];rcases kl (G1.b q) with e|⟨e,h6⟩|⟨e,h7,h8⟩ <;> rw[e,Frame.finish_at] <;> walk_nrm
        ·repeat first|(refine wU ?_;walk_nrm)|(refine wW ?_;walk_nrm)
         repeat refine wN ?_
         refine wR ?_;repeat first|(refine wU ?_;walk_nrm)|(refine wW ?_;walk_nrm)
         repeat refine wN ?_
         refine au rfl (fun _=>stepG_ret') ?_;exact ax rfl rfl rfl rfl rfl (hk _ _ (hI.b fun _ _ h=>by obtain⟨rfl,rfl⟩:=h;exact hR2))
        ·have hcq:cr q=true:=by rw[<-(hR.a hn).crashed q];exact h6
         repeat first|(refine wU ?_;walk_nrm)|(refine wW ?_;walk_nrm)
         repeat refine wN ?_
         refine wR ?_;iterate 19 (first|(refine wU ?_;walk_nrm)|(refine wW ?_;walk_nrm))
         refine ag (v:=.pointer (some ⟨P0,4+q,none⟩)) rfl rfl θ (fun wL h₁=>⟨by go_simp,by simp[go_sem,events_indexAt_array 42 4 6 ⟨P0,4,none⟩ .i64 (q:Int) Tryz.underlying42 ⟨hq0,hq6⟩]⟩) ?_;walk_nrm;refine ag (v:=.bool true) rfl rfl θ (fun wL h₁=>?_) ?_
         ·obtain⟨sP, -, -,c4, -⟩:=(hI.rely hK h₁).a;have c5:=c4 q ω;rw[hcq] at c5;exact⟨by go_simp,by simp[go_sem,c5];exact .inl sP⟩
         walk_nrm;repeat first|(refine wU ?_;walk_nrm)|(refine wW ?_;walk_nrm)
         repeat refine wN ?_
         refine au rfl (fun _=>stepG_ret') ?_;exact ax rfl rfl rfl rfl rfl (hk _ _ (hI.b fun _ _ h=>by obtain⟨rfl,rfl⟩:=h;exact hR2))
        ·have:=hfair hf G1 cr hR q hq h7;rw[h8] at this;cases this
  iterate 2 (refine wV (.bool false) ?_;walk_nrm;refine wV (.bool false) ?_;walk_nrm;(repeat refine wN ?_);refine wF ?_;(repeat refine wN ?_);refine wR ?_)
  refine wV (.bool true) ?_;walk_nrm;repeat refine wN ?_
  refine au rfl (fun _=>stepG_ret') ?_;exact ax rfl rfl rfl rfl rfl (hk _ _ (hI.d fun x hx=>y6 _ hx))
end
variable {n win lim:Nat}{fair:Bool}{P0 G0:Nat}{L:List (Nat × Obj)}{O K:Nat->Prop}{wa:World}{Post:Value->World->Prop}
def KT(c5:gN)(P0 G0:Nat)(Post:Value->World->Prop)(cf:Frame)(rest:List Frame):(Nat->Prop)->Goroutine->World->Prop:=fun OW g wg=>
 ∃ (c' : Frame) (m : Nat) (L' : List (Nat × Obj)), g = G (Frame.enter prog 28 #[pT G0 0] .normal) (c' :: cf :: rest) /\ Mq c5 P0 G0 (fun G' cr => Jr c5 G' cr /\ G'.a.length = m) L' OW wg /\
   ∀Wg O' wa',qp O' (fun b=>b<2) wa'->Mq c5 P0 G0 (Jr c5) L' O' wa'->aC prog 148 Post Wg [] .free O' (fun b=>b<2) (G (c'.finish (.int .i64 m)) (cf::rest)) wa'
def xT(hn:1<=n/\n<=6)(hl4:lim<=4000)(hK:∀b,b<2->K b)(h:Mq (gN.mk n win lim fair) P0 G0 (Jr (gN.mk n win lim fair)) L O wa)(ho:qp O K wa)(a b c:Int)(t:ByteArray)(ha:j7 a){WgA:Nat}{cf:Frame}{rest:List Frame}
 (kont:∀Wg O' wa',qp O' (fun b=>b<2) wa'->Mq (gN.mk n win lim fair) P0 G0 (Jr (gN.mk n win lim fair)) L O' wa'->aC prog 148 Post Wg [] .free O' (fun b=>b<2) (G (cf.finish (.bool true)) rest) wa') :
 aC prog 148 Post WgA [] .free O K (G (Frame.enter prog 27 #[pT P0 0,.agg #[.int .i64 10,.int .i64 a,.int .i64 b,.int .i64 c,.string t]] .normal) (cf::rest)) wa:=by
 have hA:∀w d,Al 148 WgA .free w->Al 148 WgA .free (w.at d):=fun w d h=>h;have part1:Go.Pm.Way prog true K (Al 148 WgA .free) (XS WgA .free) (KT (gN.mk n win lim fair) P0 G0 Post cf rest) O (G (Frame.enter prog 27 #[pT P0 0,.agg #[.int .i64 10,.int .i64 a,.int .i64 b,.int .i64 c,.string t]] .normal) (cf::rest)) wa:=by
  rw[enter_at _ Tryz.func27 rfl];simp only[Tryz.f27];walk_nrm;refine wN ?_;refine wR ?_;refine eP (f:=fun _=>.cells (aP 10 a b c t) 51) rfl rfl θ (fun wg h₂=>⟨by go_simp,by simp[go_sem, *]⟩) fun wg h₂=>?_;walk_nrm;have hM:=(h.rely hK h₂).i (.cells (aP 10 a b c t) 51);obtain⟨bx,hbx⟩:∃bx,bx=wg.heap.size:=⟨_,rfl⟩;rw[<-hbx] at hM ⊢;generalize wg.alloc (.cells (aP 10 a b c t) 51)=w3 at hM ⊢;generalize (fun b=>O b\/b=bx)=O3 at hM ⊢;clear h h₂ hbx;refine wV (.bool false) ?_;walk_nrm;refine wN ?_;refine wN ?_;refine jw um rfl hA ?_;refine ox (m:=7) (vals:=AC bx P0 n a) (I:=fun O w=>Mq (gN.mk n win lim fair) P0 G0 (Jr (gN.mk n win lim fair)) ((bx,Obj.cells (aP 10 a b c t) 51)::L) O w) κ ?_ ?_ O3 w3 hM
  ·intro i hi a' rest' O' w' hd ho hI hgo;obtain⟨sO,sc⟩:=hI.side (yY ..);obtain⟨sP, -, -⟩:=hI.cell2;match i,hi with
   | 0, _ =>
     have e3:a'.tmps[3]?=some (pT bx 0):=(ho 3 θ).trans ς;exact ag (v:=pT bx 1) rfl rfl θ (fun wL h₁=>⟨by simp[go_sem,Array.getD_eq_getD_getElem?,e3],by simp[go_sem,Array.getD_eq_getD_getElem?,e3]⟩) (hgo O' w' hI)
   | 1, _ =>
     have e14:a'.tmps[14]?=some (pT bx 1):=hd 0 θ 14 rfl;refine ag (v:=.int .i64 a) rfl rfl θ (fun wL h₁=>?_) (hgo O' w' hI);have c1:wL.cell? (aT bx 1)=some (.int .i64 a):=((hI.rely hK h₁).side (yY ..)).2 1 _ rfl;exact⟨by simp[go_sem,Array.getD_eq_getD_getElem?,e14,c1],by simp[go_sem,Array.getD_eq_getD_getElem?,e14,c1];exact .inl sO⟩
   | 2, _ =>
     have e0:a'.tmps[0]?=some (pT P0 0):=(ho 0 θ).trans ς;exact ag (v:=pT P0 0) rfl rfl θ (fun wL h₁=>⟨by simp[go_sem,Array.getD_eq_getD_getElem?,e0],by simp[go_sem,Array.getD_eq_getD_getElem?,e0]⟩) (hgo O' w' hI)
   | 3, _ =>
     have e16:a'.tmps[16]?=some (pT P0 0):=hd 2 θ 16 rfl;exact ag (v:=pT P0 0) rfl rfl θ (fun wL h₁=>⟨by simp[go_sem,Array.getD_eq_getD_getElem?,e16],by simp[go_sem,Array.getD_eq_getD_getElem?,e16]⟩) (hgo O' w' hI)
   | 4, _ =>
     have e17:a'.tmps[17]?=some (pT P0 0):=hd 3 θ 17 rfl;exact ag (v:=pT P0 1) rfl rfl θ (fun wL h₁=>⟨by simp[go_sem,Array.getD_eq_getD_getElem?,e17],by simp[go_sem,Array.getD_eq_getD_getElem?,e17]⟩) (hgo O' w' hI)
   | 5, _ =>
     have e18:a'.tmps[18]?=some (pT P0 1):=hd 4 θ 18 rfl;exact ag (v:=pT P0 1) rfl rfl θ (fun wL h₁=>⟨by simp[go_sem,Array.getD_eq_getD_getElem?,e18],by simp[go_sem,Array.getD_eq_getD_getElem?,e18]⟩) (hgo O' w' hI)
   | 6, _ =>
     have e19:a'.tmps[19]?=some (pT P0 1):=hd 5 θ 19 rfl;refine ag (v:=.int .i64 n) rfl rfl θ (fun wL h₁=>?_) (hgo O' w' hI);obtain⟨-, -,c1⟩:=(hI.rely hK h₁).cell2;exact⟨by simp[go_sem,Array.getD_eq_getD_getElem?,e19,c1],by simp[go_sem,Array.getD_eq_getD_getElem?,e19,c1];exact .inl sP⟩
  ·intro O' w' hI l hl;have hl':=mA (L':=[[7,8]]) hl κ;rw[yu] at hl';subst hl';clear hl;simp only[AM,List.range,List.range.loop,List.foldl,dR,AC];walk_nrm;have hp:=fO a n;refine wA Tryz.f34 ?_;walk_nrm;refine Mq.g hI hK (f:=34) (args:=[.int .i64 a,.int .i64 n]) (v:=.int .i64 (bw a n)) rfl rfl ς ς (fun w=>hp w ha hn.1 ω) fun O4 w4 hI4=>?_;have hq:=cM a hn.1;generalize bw a n=q at hq ⊢;clear hI hp hM;rw[Frame.finish_at];walk_nrm;generalize hl2:(bx,Obj.cells (aP 10 a b c t) 51)::L=L2 at hI4;have hI:=hI4;clear hI4;subst hl2;refine wV (.int .i64 q) ?_;walk_nrm;repeat refine wN ?_
   refine wR ?_;refine wV (pT bx 0) ?_;walk_nrm;refine IW (.int .i64 10) ?_;walk_nrm;iterate 9 ((repeat refine wN ?_);refine wR ?_;refine wV (.bool false) ?_;walk_nrm;refine wV (.bool false) ?_;walk_nrm;(repeat refine wN ?_);refine wF ?_)
   repeat refine wN ?_
   refine wR ?_;iterate 2 (refine wV (.bool true) ?_;walk_nrm)
   repeat refine wN ?_
   refine wT ?_;repeat refine wN ?_
   refine wR ?_;iterate 3 (refine wV (pT P0 0) ?_;walk_nrm)
   refine Kj (pT G0 0) ?_;walk_nrm;refine wA Tryz.f41 ?_;walk_nrm;refine Mq.f hI hK (f:=41) rfl rfl true (args:=[]) ς (Q:=fun v G' cr=>v=.int .i64 G'.a.length/\Jr (gN.mk n win lim fair) G' cr) (fun w pp gb FG G1 cr h1 h2 h3 h4=>(vM h3).mono fun e w' h=>⟨_,h.1,ς,G1,by rw[h.2];exact⟨cW.j _ _,h3.c aY.c⟩,rfl,h4⟩) fun v O5 w5 hI5=>?_;obtain⟨m,rfl,hI6⟩:∃m:Nat,v=.int .i64 m/\Mq (gN.mk n win lim fair) P0 G0 (fun G' cr=>Jr (gN.mk n win lim fair) G' cr/\G'.a.length=m) ((bx,Obj.cells (aP 10 a b c t) 51)::L) O5 w5:=by
    obtain⟨G1,cr,⟨h1,h2⟩,hI5⟩:=hI5.e;exact⟨G1.a.length,h1,hI5.b fun G' cr' h=>by obtain⟨rfl,rfl⟩:=h;exact⟨h2,rfl⟩⟩
   clear hI hI5;have hI:=hI6;clear hI6;rw[Frame.finish_at];walk_nrm;refine wV (.int .i64 m) ?_;walk_nrm;repeat refine wN ?_
   refine wR ?_;iterate 3 (refine wV (pT P0 0) ?_;walk_nrm)
   refine Kj (pT G0 0) ?_;walk_nrm;refine wA Tryz.f28 ?_;walk_nrm;refine .stop fun wL h₁=>⟨_,m,_,rfl,hI.rely hK h₁,fun Wg O' wa' hown' hM=>?_⟩;refine aC.c (lL (Stop:=fun OW g wg=>g=G (cf.finish (.bool true)) rest/\Mq (gN.mk n win lim fair) P0 G0 (Jr (gN.mk n win lim fair)) L OW wg) ?_ hown') (fun OW g wg hS=>?_)
   ·rw[Frame.finish_at];walk_nrm;refine wV (.int .i64 m) ?_;walk_nrm;repeat refine wN ?_
    refine wR ?_;iterate 2 (refine wV (.int .i64 m) ?_;walk_nrm)
    iterate 2 (refine wV (.bool true) ?_;walk_nrm)
    repeat refine wN ?_
    refine au rfl (fun _=>stepG_ret') ?_;exact ax rfl rfl rfl rfl rfl (.stop fun w5 h5=>⟨rfl,(hM.d fun x hx=>y6 _ hx).rely (fun b hb=>hb) h5⟩)
   ·obtain⟨⟨rfl,hM2⟩,hown2⟩:=hS wg (.c _ _ _ _);exact kont Wg OW wg hown2 hM2
 refine aC.c (lL part1 ho) (fun OW g wg hS=>?_);obtain⟨⟨c',m,L',rfl,hM,hkont⟩,hown⟩:=hS wg (.c _ _ _ _);refine wO (J:=fun G' cr=>Jr (gN.mk n win lim fair) G' cr/\G'.a.length=m) hn hK (fun G1 cr h=>?_) hM hown fun Wg O' wa' m' hown' hM'=>?_
 ·have hi:=h.1.a hn;refine⟨hi.b hn.2 hl4,hi.n,fun x hx=>?_⟩;obtain⟨k,hk⟩:=List.getElem?_of_mem hx;obtain⟨f,h1,h2,h3⟩:=hi.d hk;refine⟨?_,by rw[hi.n];exact h3⟩;rw[h2];exact(wI h1).2
 obtain rfl:m'=m:=by
  obtain⟨_,_,⟨G1,h1,h2, -⟩, -⟩:=hM'.e;exact h2.symm.trans h1.2
 refine hkont Wg O' wa' hown' (hM'.b fun G' cr' h=>?_);obtain⟨G1,h1,h2,rfl⟩:=h;exact h1.1.round
variable {rest:List Frame}{sa:Option Addr}{len cap:Nat}
section
def Kt(Post:Value->World->Prop)(Wg:Nat):(Nat->Prop)->Goroutine->World->Prop:=fun O g w=>qp O (fun b=>b<2) w->aC prog 148 Post Wg [] .free O (fun b=>b<2) g w
section
variable {Wg:Nat}{O:Nat->Prop}{wa:World}{Post:Value->World->Prop}{g:Goroutine}
def gZ(hown:qp O (fun b=>b<2) wa)(h:Go.Pm.Way prog true (fun b=>b<2) (Al 148 Wg .free) (XS Wg .free) (Kt Post Wg) O g wa):aC prog 148 Post Wg [] .free O (fun b=>b<2) g wa:=by
 refine aC.c (lL h hown) fun OW g₂ wg hS=>?_;obtain⟨h1,h2⟩:=hS wg (.c _ _ _ _);exact h1 h2
end
section
variable {n win lim:Nat}{fair:Bool}{P0 G0 Wg:Nat}{L:List (Nat × Obj)}{O:Nat->Prop}{wa:World}{Post:Value->World->Prop}
def BF(hn:1<=n/\n<=6)(hl4:lim<=4000)(hfair:td (gN.mk n win lim fair))(h:Mq (gN.mk n win lim fair) P0 G0 (Jr (gN.mk n win lim fair)) L O wa)(hown:qp O (fun b=>b<2) wa)(kd a b c:Int)(t:ByteArray)(ha:j7 a)(hb:j7 b)(hc:j7 c)
 (kont:∀Wg O' wa',qp O' (fun b=>b<2) wa'->Mq (gN.mk n win lim fair) P0 G0 (Jr (gN.mk n win lim fair)) L O' wa'->aC prog 148 Post Wg [] .free O' (fun b=>b<2) (G (cf.finish (.bool true)) rest) wa') :
 aC prog 148 Post Wg [] .free O (fun b=>b<2) (G (Frame.enter prog 27 #[pT P0 0,.agg #[.int .i64 kd,.int .i64 a,.int .i64 b,.int .i64 c,.string t]] .normal) (cf::rest)) wa:=by
 by_cases h10:kd=10
 ·subst h10;exact xT hn hl4 (fun b hb=>hb) h hown a b c t ha kont
 ·exact gZ hown (DS hn hl4 hfair (fun w d h=>h) (fun b hb=>hb) h kd a b c t ha hb hc h10 fun O' wa' h'=>.stop fun wL h₁ hown'=>kont Wg O' wL hown' (h'.rely (fun b hb=>hb) h₁))
end
def nv:List Bool->Code->Code
 |[],c=>c
 |false::p,.seq a _=>nv p a
 |true::p,.seq _ b=>nv p b
 |false::p,.block _ c=>nv p c
 |false::p,.loop c=>nv p c
 |_,_=>.skip
def Mq.k{c:gN}{P0 G0:Nat}{J:zV}{L:List (Nat × Obj)}{O:Nat->Prop}{wa:World}(h:Mq c P0 G0 J L O wa):∀x∈L,O x.1/\wa.heap[x.1]?=some x.2:=by
 obtain⟨π,w,pp,gb,FG,G,cr,h1,h2, -⟩:=h;exact fun x hx=>⟨(h2 x hx).1,(h2 x hx).2.1⟩
def KR(L:List (Nat × Obj))(sa:Option Addr)(len:Nat):Prop:=∀i,i<len->∃ad ad' kd a b c t,sa=some ad/\ad.add (i * 5)=ad'/\j7 kd/\j7 a/\j7 b/\j7 c/\∀(O:Nat->Prop) (wa:World),(∀x∈L,O x.1/\wa.heap[x.1]?=some x.2)->O ad'.block/\∀j u,(aP kd a b c t)[j]?=some u->wa.cell? (ad'.add j)=some u
def kR(a:Addr)(w:World):(binOp .eql 28 (.pointer (some a)) (.pointer none)).events prog w #[]=#[]:=by
 first
 |kernel_rfl
 |rfl
 |(simp[binOp,Op.equal,Op.equalIn,go_sem,Tryz.underlying28])
noncomputable def DV (p:List Bool):Code:=nv p (Tryz.f13.body.getD .skip)
noncomputable def vW:Code:=DV [true,true,true,false,true,false,false]
noncomputable def IU:Code:=DV [true,true,true,true]
variable {n win lim:Nat}{fair:Bool}{P0 G0:Nat}{L:List (Nat × Obj)}{Post:Value->World->Prop}
def IB(hn:1<=n/\n<=6)(hl4:lim<=4000)(hfair:td (gN.mk n win lim fair))(hlen:len<=9223372036854775807)(hscr:KR L sa len){k:List Item}
 (hk:∀Wg O wa (v0 v1 v2 v3 v4 v5 v6 v8 v9 v10 v11 v12 v13 v14 v15 v16 v17 v18 v19 v20 v21 v22 v23 v24 v25 v26 v27 v28 v29:Value),qp O (fun b=>b<2) wa->Mq (gN.mk n win lim fair) P0 G0 (Jr (gN.mk n win lim fair)) L O wa->aC prog 148 Post Wg [] .free O (fun b=>b<2) (G ((base 13).at ⟨(v0::v1::v2::v3::v4::v5::v6::pT P0 0::v8::v9::v10::v11::v12::v13::v14::v15::v16::v17::v18::v19::v20::v21::v22::v23::v24::v25::v26::v27::v28::v29::[]).toArray,[]⟩ k) (cf::rest)) wa) :
 ∀ (r i : Nat), i + r = len -> ∀ (Wg : Nat) (O : Nat -> Prop) (wa : World) (v0 v2 v3 v4 v5 v6 v9 v10 v11 v12 v13 v14 v15 v16 v17 v18 v19 v20 v21 v22 v23 v24 v25 v26 v27 v28 v29 : Value), qp O (fun b => b < 2) wa -> Mq (gN.mk n win lim fair) P0 G0 (Jr (gN.mk n win lim fair)) L O wa ->
   aC prog 148 Post Wg [] .free O (fun b=>b<2) (G ((base 13).at ⟨(v0::.slice sa len cap::v2::v3::v4::v5::v6::pT P0 0::.int .i64 ((i:Nat):Int)::v9::v10::v11::v12::v13::v14::v15::v16::v17::v18::v19::v20::v21::v22::v23::v24::v25::v26::v27::v28::v29::[]).toArray,[]⟩ (.code vW::.inLoop vW::.inBlock 0::k)) (cf::rest)) wa:=by
 have hK:∀b,b<2->(fun b=>b<2) b:=fun b hb=>hb;intro r;induction r with
 | zero =>
   intro i hir Wg O wa;intros
   rename_i hown hI
   have hlt:¬(i:Int)<(len:Int):=ω;refine gZ hown ?_;obtain⟨LP,hLP⟩:∃LP,LP=vW:=⟨_,rfl⟩;rw[<-hLP];rw[show Item.code LP=.code vW by rw[hLP]];simp only[vW,DV,nv,Tryz.f13,yv];repeat refine wN ?_
   refine wR ?_;refine wV (.int .i64 i) ?_;walk_nrm;refine wV (.slice sa len cap) ?_;walk_nrm;refine wV (.int .i64 len) ?_;walk_nrm;refine wV (.bool false) ?_;walk_nrm;repeat refine wN ?_
   refine wF ?_;refine au rfl (fun _=>stepG_exit rfl) ?_;exact .stop fun wL h₁ hown'=>by apply hk Wg O wL;exact hown';exact hI.rely hK h₁
 | succ r ih =>
   intro i hir Wg O wa;intros
   rename_i hown hI
   have hil:i<len:=ω;have hlt:(i:Int)<(len:Int):=ω;have hi0:(0:Int)<=(i:Int):=ω;have hadd:IntKind.i64.wrap ((i:Int)+1)=((i+1:Nat):Int):=by rw[IntKind.wrap_i64];omega
   obtain⟨ad,ad',kd,a,b,c,t,rfl,had,hkd,ha,hb,hc,hcell⟩:=hscr i hil;refine gZ hown ?_;obtain⟨LP,hLP⟩:∃LP,LP=vW:=⟨_,rfl⟩;rw[<-hLP];rw[<-hLP] at ih;rw[show Item.code LP=.code vW by rw[hLP]];simp only[vW,DV,nv,Tryz.f13,yv];repeat refine wN ?_
   refine wR ?_;refine wV (.int .i64 i) ?_;walk_nrm;refine wV (.slice (some ad) len cap) ?_;walk_nrm;refine wV (.int .i64 len) ?_;walk_nrm;refine wV (.bool true) ?_;walk_nrm;repeat refine wN ?_
   refine wT ?_;repeat refine wN ?_
   refine wR ?_;refine wV (pT P0 0) ?_;walk_nrm;refine wV (.slice (some ad) len cap) ?_;walk_nrm;refine wV (.int .i64 i) ?_;walk_nrm;refine wV (.pointer (some ad')) ?_;walk_nrm;refine ag (v:=.agg (aP kd a b c t)) rfl rfl θ (fun wL h₁=>?_) ?_
   ·obtain⟨sO,sc⟩:=hcell O wL (hI.rely hK h₁).k;have c0:wL.cell? ad'=some (.int .i64 kd):=sc 0 _ rfl;have c1:wL.cell? ⟨ad'.block,ad'.off+1,none⟩=some (.int .i64 a):=sc 1 _ rfl;have c2:wL.cell? ⟨ad'.block,ad'.off+2,none⟩=some (.int .i64 b):=sc 2 _ rfl;have c3:wL.cell? ⟨ad'.block,ad'.off+3,none⟩=some (.int .i64 c):=sc 3 _ rfl;have c4:wL.cell? ⟨ad'.block,ad'.off+4,none⟩=some (.string t):=sc 4 _ rfl;exact⟨by go_simp,by simp[go_sem, *];exact⟨.inl sO,.inl sO,.inl sO,.inl sO,.inl sO⟩⟩
   walk_nrm;refine wA Tryz.f27 ?_;walk_nrm;refine .stop fun wL h₁ hown'=>?_;refine BF hn hl4 hfair (hI.rely hK h₁) hown' kd a b c t ha hb hc fun Wg' O' wa' hown2 hM=>?_;refine gZ hown2 ?_;rw[Frame.finish_at];walk_nrm;refine wV (.bool true) ?_;walk_nrm;repeat refine wN ?_
   refine wR ?_;refine wV (.bool true) ?_;walk_nrm;refine wV (.bool false) ?_;walk_nrm;repeat refine wN ?_
   refine wF ?_;repeat refine wN ?_
   refine wR ?_;refine wV (.int .i64 i) ?_;iterate 2 (walk_nrm;refine wV (.int .i64 ((i+1:Nat):Int)) ?_)
   walk_nrm;repeat refine wN ?_
   refine au rfl (fun _=>stepG_inLoop) ?_;exact .stop fun wg h₂ hown3=>by apply ih (i+1) ω Wg' O' wg;exact hown3;exact hM.rely hK h₂
def wH(hn:1<=n/\n<=6)(hwin:1<=win/\win<=8)(hl4:1<=lim/\lim<=4000)(hfair:td (gN.mk n win lim fair))(hlen:len<=9223372036854775807)(hscr:KR L sa len){O:Nat->Prop}{wa:World}{Wg:Nat}(hown:qp O (fun b=>b<2) wa)(h:M0 L O wa)
 (kont:∀P0 G0 Wg O' wa',qp O' (fun b=>b<2) wa'->Mq (gN.mk n win lim fair) P0 G0 (Jr (gN.mk n win lim fair)) L O' wa'->aC prog 148 Post Wg [] .free O' (fun b=>b<2) (G (cf.finish (pT P0 0)) rest) wa') :
 aC prog 148 Post Wg [] .free O (fun b=>b<2) (G (Frame.enter prog 13 #[.agg #[.int .i64 n,.int .i64 win,.int .i64 lim],.slice sa len cap,.bool fair] .normal) (cf::rest)) wa:=by
 have hK:∀b,b<2->(fun b=>b<2) b:=fun b hb=>hb;refine gZ hown ?_;obtain⟨T0,hT0⟩:∃T0,T0=IU:=⟨_,rfl⟩;rw[enter_at _ Tryz.func13 rfl];simp only[Tryz.f13];walk_nrm;repeat refine wN ?_
 refine wR ?_;refine eP (f:=fun _=>.cells #[.int .i64 n,.int .i64 win,.int .i64 lim] 23) rfl rfl θ (fun wg h₂=>⟨by go_simp,by simp[go_sem, *]⟩) fun wg h₂=>?_;walk_nrm;have hI:=(h.rely hK h₂).f (.cells #[.int .i64 n,.int .i64 win,.int .i64 lim] 23);obtain⟨bx,hbx⟩:∃bx,bx=wg.heap.size:=⟨_,rfl⟩;rw[<-hbx] at hI ⊢;generalize wg.alloc (.cells #[.int .i64 n,.int .i64 win,.int .i64 lim] 23)=w3 at hI ⊢;generalize (fun b=>O b\/b=bx)=O3 at hI ⊢;clear h h₂ hbx;refine wV (.pointer none) ?_;walk_nrm;repeat refine wN ?_
 refine wR ?_;refine ag (v:=.agg #[.int .i64 n,.int .i64 win,.int .i64 lim]) rfl rfl θ (fun wL h₁=>?_) ?_
 ·obtain⟨sO,sc⟩:=(hI.rely hK h₁).side (yY ..);have d0:=sc 0 _ rfl;have d1:=sc 1 _ rfl;have d2:=sc 2 _ rfl;simp only[yf,yd,ye] at d0 d1 d2;exact⟨by go_simp,by simp[go_sem, *];exact⟨.inl sO,.inl sO,.inl sO⟩⟩
 walk_nrm;refine wV (.bool fair) ?_;walk_nrm;refine wA Tryz.f25 ?_;walk_nrm;refine M0.b (c5:=(gN.mk n win lim fair)) (hI.e fun x hx=>y6 _ hx) hK hn hwin hl4 fun P0 G0 O5 w5 hI5=>?_;rw[Frame.finish_at];walk_nrm;refine wV (pT P0 0) ?_;walk_nrm;repeat refine wN ?_
 refine wR ?_;refine wV (pT P0 0) ?_;walk_nrm;refine ag (v:=.bool false) rfl rfl θ (fun wL h₁=>⟨by go_simp,by simp[go_sem,kR]⟩) ?_;walk_nrm;repeat refine wN ?_
 refine wF ?_;repeat refine wN ?_
 refine wR ?_;refine wV (.int .i64 ((0:Nat):Int)) ?_;walk_nrm;repeat refine wN ?_
 refine au rfl (fun _=>stepG_loop) ?_;refine .stop fun wL h₁ hown1=>IB (k:=[.code IU]) hn hl4.2 hfair hlen hscr (fun Wg O wa v0 v1 v2 v3 v4 v5 v6 v8 v9 v10 v11 v12 v13 v14 v15 v16 v17 v18 v19 v20 v21 v22 v23 v24 v25 v26 v27 v28 v29 hown hI=>?_) len 0 ω _ _ _ _ _ _ _ _ _ _ _ _ _ _ _ _ _ _ _ _ _ _ _ _ _ _ _ _ _ _ hown1 (Mq.rely hI5 hK h₁);refine gZ hown ?_;simp only[IU,DV,nv,Tryz.f13,yv];repeat refine wN ?_
 refine wR ?_;iterate 2 (refine wV (pT P0 0) ?_;walk_nrm)
 repeat refine wN ?_
 refine au rfl (fun _=>stepG_ret') ?_;exact ax rfl rfl rfl rfl rfl (.stop fun wg h₂ hown2=>kont P0 G0 Wg O wg hown2 (hI.rely hK h₂))
end
