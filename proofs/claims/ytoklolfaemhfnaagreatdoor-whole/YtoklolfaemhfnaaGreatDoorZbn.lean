import Derived.Test.YtoklolfaemhfnaaGreatDoorZbk
import Derived.Test.YtoklolfaemhfnaaGreatDoorZbl
import Derived.Test.YtoklolfaemhfnaaGreatDoorZbm
set_option maxRecDepth 100000
set_option maxHeartbeats 8000000
namespace Go.Cr
section
open Go Go.Conc Go.RowKit Go.Proofs Go.Pm
def tab32:Array Int:=#[0,1,28,2,29,14,24,3,30,22,20,15,25,17,4,8,31,27,13,23,21,19,16,7,26,12,18,6,11,5,10,9]
def tab64:Array Int:=#[0,1,56,2,57,49,28,3,61,58,42,50,38,29,17,4,62,47,59,36,45,43,51,22,53,39,33,30,24,18,12,5,63,55,48,27,60,41,37,16,46,35,44,21,52,32,23,11,54,26,40,15,34,20,31,10,25,14,19,9,13,8,7,6]
def Tabs(w:World):Prop:=(∀i,i<32->w.cell? (aT 0 i)=some (.int .u8 (tab32.getD i 0)))/\(∀i,i<64->w.cell? (aT 1 i)=some (.int .u8 (tab64.getD i 0)))
structure Env (T:Array Value) (l:List (Nat × Value)):Prop where
 size:14<=T.size
 get:∀p∈l,T[p.1]?=some p.2
theorem Env.put{T:Array Value}{l:List (Nat × Value)}(h:Env T l){d:Nat}(hd:d<14)(v:Value):Env (T.setIfInBounds d v) ((d,v)::l.filter (fun p=>p.1 != d)):=by
 refine⟨by simpa using h.size,fun p hp=>?_⟩;have hs:=h.size;rcases yF.1 hp with rfl|hp
 ·exact yR (by omega)
 ·obtain⟨hp,hne⟩:=yM.1 hp;rw[yP (by intro e;simp[e] at hne)];exact h.get p hp
section
variable {P:Program}{TT:World->Prop}{f:FuncId}{v:Value}
def SL(P:Program)(TT:World->Prop)(f:FuncId)(k:List Item)(l:List (Nat × Value))(v:Value):Prop:=∀T T',Env T l->Env T' l->Slides P TT 2 ((base f).at ⟨T,[]⟩ k) ((base f).at ⟨T',[]⟩ k) v
def ST(P:Program)(TT:World->Prop)(f:FuncId)(k:List Item)(l:List (Nat × Value)):Prop:=∀T,Env T l->Sticks P TT ((base f).at ⟨T,[]⟩ k)
variable {k k':List Item}{l:List (Nat × Value)}{ops:Array Oper}{i d:Nat}{rest:List Nat}{o:Oper}{v1:Value}
theorem SL.ctl(h:∀main cs w (a:Act),stepG P main (G ((base f).at a k) cs) w=.go (G ((base f).at a k') cs) w)(hn:SL P TT f k' l v):SL P TT f k l v:=
 fun T T' hT hT'=>.step rfl (fun w main cs _=>h main cs w _) (fun w main cs _=>h main cs w _) (by simp) (hn T T' hT hT')
theorem ST.ctl(h:∀main cs w (a:Act),stepG P main (G ((base f).at a k) cs) w=.go (G ((base f).at a k') cs) w)(hn:ST P TT f k' l):ST P TT f k l:=
 fun T hT=>.step (fun w main cs _=>h main cs w _) (hn T hT)
theorem qhk{T:Array Value}{es:Array Event}(ho:ops[i]?=some o)(hg:o.guard=none)(hd:o.dst=some d)(hr:∀w,TT w->(execOp (Act.eval ⟨T,[]⟩) o).run P w=.ok (.value v1) w/\(execOp (Act.eval ⟨T,[]⟩) o).events P w #[]=es) :
 ∀(w:World) (main:Bool) (cs:List Frame),TT w->stepG P main (G ((base f).at ⟨T,[]⟩ (.inRegion ops (i::rest)::k)) cs) w=.go (G ((base f).at ⟨T.setIfInBounds d v1,[]⟩ (.inRegion ops rest::k)) cs) w (seen P f es):=fun w main cs hw=>by
 rw[stepG_value ho (by simp[Region.wanted,hg]) (by simp[base]) (hr w hw).1];unfold listed;rw[(hr w hw).2,hd];simp[Act.put,base]
theorem SL.val{es:Array Event}(ho:ops[i]?=some o)(hg:o.guard=none)(hd:o.dst=some d)(h14:d<14)(hr:∀T,Env T l->∀w,TT w->(execOp (Act.eval ⟨T,[]⟩) o).run P w=.ok (.value v1) w/\(execOp (Act.eval ⟨T,[]⟩) o).events P w #[]=es)
 (he:∀e∈es,∃a:Addr,e=⟨.cell a,false,false⟩/\a.block<2) (hn:SL P TT f (.inRegion ops rest::k) ((d,v1)::l.filter (fun p=>p.1 != d)) v):SL P TT f (.inRegion ops (i::rest)::k) l v:=
 fun T T' hT hT'=>.step rfl (qhk ho hg hd (hr T hT)) (qhk ho hg hd (hr T' hT')) (fun e hx=>he e (seen_sub P f es e hx)) (hn _ _ (hT.put h14 v1) (hT'.put h14 v1))
theorem ST.val{es:Array Event}(ho:ops[i]?=some o)(hg:o.guard=none)(hd:o.dst=some d)(h14:d<14)(hr:∀T,Env T l->∀w,TT w->(execOp (Act.eval ⟨T,[]⟩) o).run P w=.ok (.value v1) w/\(execOp (Act.eval ⟨T,[]⟩) o).events P w #[]=es)
 (hn:ST P TT f (.inRegion ops rest::k) ((d,v1)::l.filter (fun p=>p.1 != d))):ST P TT f (.inRegion ops (i::rest)::k) l:=
 fun T hT=>.step (qhk ho hg hd (hr T hT)) (hn _ (hT.put h14 v1))
theorem qfe{T:Array Value}{x:Operand}{c1 c2:Code}{t:Bool}(hx:Act.eval ⟨T,[]⟩ x=.bool t)(main:Bool)(cs:List Frame)(w:World):stepG P main (G ((base f).at ⟨T,[]⟩ (.code (.cond x c1 c2)::k)) cs) w=.go (G ((base f).at ⟨T,[]⟩ (.code (if t then c1 else c2)::k)) cs) w:=stepG_cond hx
theorem SL.cond{x:Operand}{c1 c2:Code}{t:Bool}(hx:∀T,Env T l->Act.eval ⟨T,[]⟩ x=.bool t)(hn:SL P TT f (.code (if t then c1 else c2)::k) l v):SL P TT f (.code (.cond x c1 c2)::k) l v:=
 fun T T' hT hT'=>.step rfl (fun w main cs _=>qfe (hx T hT) main cs w) (fun w main cs _=>qfe (hx T' hT') main cs w) (by simp) (hn T T' hT hT')
theorem ST.cond{x:Operand}{c1 c2:Code}{t:Bool}(hx:∀T,Env T l->Act.eval ⟨T,[]⟩ x=.bool t)(hn:ST P TT f (.code (if t then c1 else c2)::k) l):ST P TT f (.code (.cond x c1 c2)::k) l:=
 fun T hT=>.step (fun w main cs _=>qfe (hx T hT) main cs w) (hn T hT)
theorem SL.ret{fn:Func}{t:Nat}(hf:P.funcs[f]?=some fn)(hr:fn.results=#[.tmp t])(hv:(t,v)∈l):SL P TT f (.code .ret::k) l v:=by
 intro T T' hT hT';refine .step rfl (fun w main cs _=>stepG_ret') (fun w main cs _=>stepG_ret') (by simp) (.ret rfl rfl rfl hf (fun w _=>?_) rfl rfl rfl hf (fun w _=>?_))
 ·have:=hT.get _ hv;simp[results,hr,Frame.at,this]
 ·have:=hT'.get _ hv;simp[results,hr,Frame.at,this]
theorem ST.now(ho:ops[i]?=some o)(hg:o.guard=none)(hr:∀T,Env T l->∀w,TT w->(∃s w',(execOp (Act.eval ⟨T,[]⟩) o).run P w=.halt (.stuck s) w')\/∃w',(execOp (Act.eval ⟨T,[]⟩) o).run P w=.halt (.unsupported .addressObserved) w'):ST P TT f (.inRegion ops (i::rest)::k) l:=by
 intro T hT;refine .now fun w main cs hw=>?_;rw[stepG_oper ho (by simp[Region.wanted,hg])];rcases hr T hT w hw with ⟨s,w',h⟩|⟨w',h⟩
 ·simp[stepG.apply,h,GStep.after]
 ·simp[stepG.apply,h,GStep.after]
theorem SL.n(hn:SL P TT f k' l v)(h:Nx k k':=by constructor):SL P TT f k l v:=SL.ctl (fun _ _ _ _=>h.step) hn
theorem ST.n(hn:ST P TT f k' l)(h:Nx k k':=by constructor):ST P TT f k l:=ST.ctl (fun _ _ _ _=>h.step) hn
theorem SL.r{id:Nat}{q:List Nat}(hn:SL P TT f (.inRegion ops q::k) l v)(he:List.range ops.size=q:=by (simp only[yJ,yx,yD,yS,Nat.reduceAdd,List.range,List.range.loop];exact rfl)):SL P TT f (.code (.region id ops false)::k) l v:=SL.ctl (fun _ _ _ _=>sR) (he▸hn)
theorem ST.r{id:Nat}{q:List Nat}(hn:ST P TT f (.inRegion ops q::k) l)(he:List.range ops.size=q:=by (simp only[yJ,yx,yD,yS,Nat.reduceAdd,List.range,List.range.loop];exact rfl)):ST P TT f (.code (.region id ops false)::k) l:=ST.ctl (fun _ _ _ _=>sR) (he▸hn)
def Yl(P:Program)(TT:World->Prop)(l:List (Nat × Value))(o:Oper)(v1:Value):Prop:=∀T,Env T l->∀w,TT w->(execOp (Act.eval ⟨T,[]⟩) o).run P w=.ok (.value v1) w/\(execOp (Act.eval ⟨T,[]⟩) o).events P w #[]=#[]
theorem SL.w(v1:Value){l':List (Nat × Value)}(ho:ops[i]?=some o)(hr:Yl P TT l o v1)(hn:SL P TT f (.inRegion ops rest::k) l' v)(hg:o.guard=none:=by exact rfl)(hd:o.dst=some d:=by exact rfl)(h14:d<14:=by decide)(he:(d,v1)::l.filter (fun p=>p.1 != d)=l':=by (simp only[List.filter,Nat.reduceBNe];exact rfl)):SL P TT f (.inRegion ops (i::rest)::k) l v:=SL.val ho hg hd h14 hr (by simp) (he▸hn)
theorem ST.w(v1:Value){l':List (Nat × Value)}(ho:ops[i]?=some o)(hr:Yl P TT l o v1)(hn:ST P TT f (.inRegion ops rest::k) l')(hg:o.guard=none:=by exact rfl)(hd:o.dst=some d:=by exact rfl)(h14:d<14:=by decide)(he:(d,v1)::l.filter (fun p=>p.1 != d)=l':=by (simp only[List.filter,Nat.reduceBNe];exact rfl)):ST P TT f (.inRegion ops (i::rest)::k) l:=ST.val ho hg hd h14 hr (he▸hn)
theorem SL.y(v1:Value){l':List (Nat × Value)}(hn:SL P TT f (.inRegion ops rest::k) l' v)(ho:ops[i]?=some o:=by exact rfl)(hg:o.guard=none:=by exact rfl)(hd:o.dst=some d:=by exact rfl)(h14:d<14:=by decide)(hr:Yl P TT l o v1:=by (intro T hT w hw;have h:=hT.get;simp only[yF,yU,or_false,forall_eq_or_imp,forall_eq] at h;exact⟨by simp[go_sem,Act.eval,h],by simp[go_sem,Act.eval,h]⟩))(he:(d,v1)::l.filter (fun p=>p.1 != d)=l':=by (simp only[List.filter,Nat.reduceBNe];exact rfl)):SL P TT f (.inRegion ops (i::rest)::k) l v:=SL.w v1 ho hr hn hg hd h14 he
theorem ST.y(v1:Value){l':List (Nat × Value)}(hn:ST P TT f (.inRegion ops rest::k) l')(ho:ops[i]?=some o:=by exact rfl)(hg:o.guard=none:=by exact rfl)(hd:o.dst=some d:=by exact rfl)(h14:d<14:=by decide)(hr:Yl P TT l o v1:=by (intro T hT w hw;have h:=hT.get;simp only[yF,yU,or_false,forall_eq_or_imp,forall_eq] at h;exact⟨by simp[go_sem,Act.eval,h],by simp[go_sem,Act.eval,h]⟩))(he:(d,v1)::l.filter (fun p=>p.1 != d)=l':=by (simp only[List.filter,Nat.reduceBNe];exact rfl)):ST P TT f (.inRegion ops (i::rest)::k) l:=ST.w v1 ho hr hn hg hd h14 he
theorem SL.c(t:Bool){x:Operand}{c1 c2 c3:Code}(hn:SL P TT f (.code c3::k) l v)(hx:∀T,Env T l->Act.eval ⟨T,[]⟩ x=.bool t:=by (intro T hT;have h:=hT.get;simp only[yF,yU,or_false,forall_eq_or_imp,forall_eq] at h;simp[Act.eval,h]))(he:(if t then c1 else c2)=c3:=by exact rfl):SL P TT f (.code (.cond x c1 c2)::k) l v:=SL.cond hx (he▸hn)
theorem ST.c(t:Bool){x:Operand}{c1 c2 c3:Code}(hn:ST P TT f (.code c3::k) l)(hx:∀T,Env T l->Act.eval ⟨T,[]⟩ x=.bool t:=by (intro T hT;have h:=hT.get;simp only[yF,yU,or_false,forall_eq_or_imp,forall_eq] at h;simp[Act.eval,h]))(he:(if t then c1 else c2)=c3:=by exact rfl):ST P TT f (.code (.cond x c1 c2)::k) l:=ST.cond hx (he▸hn)
end
set_option maxRecDepth 100000 in
theorem sl234(x:Int):∃r,SL Tryz.prog Tabs 234 [.code (Tryz.f234.body.getD .skip)] [(0,.int .u32 x)] (J r):=by
 simp only[Tryz.f234,yv];by_cases hx:x=0
 ·subst hx;refine⟨32,?_⟩;repeat refine SL.n ?_
  refine SL.r ?_;refine SL.y (J 0) ?_;repeat refine SL.n ?_
  refine SL.r ?_;refine SL.y (.int .u32 0) ?_;refine SL.y (.bool true) ?_;repeat refine SL.n ?_
  refine SL.c true ?_;repeat refine SL.n ?_
  refine SL.r ?_;refine SL.y (J 32) ?_;repeat refine SL.n ?_
  exact SL.ret Tryz.func234 rfl (by simp)
 ·obtain⟨A,hA⟩:∃A,A=(IntKind.u32.wrap (bits .and .u32 x (IntKind.u32.wrap (0 - x)) * 125613361)):=⟨_,rfl⟩;have hA1:0<=A/\A<4294967296:=by rw[hA];simp[IntKind.wrap,IntKind.bits,IntKind.signed];omega
  have hy:0<=A / 134217728/\A / 134217728<32:=by omega
  have hyn:(A / 134217728).toNat<32:=by omega
  have hcell:∀w,Tabs w->w.cell? ⟨0,(A / 134217728).toNat,none⟩=some (.int .u8 (tab32.getD (A / 134217728).toNat 0)):=fun w hw=>hw.1 _ hyn;have hwrap:IntKind.i64.wrap (tab32.getD (A / 134217728).toNat 0)=tab32.getD (A / 134217728).toNat 0:=by
   have:∀i,i<32->0<=tab32.getD i 0/\tab32.getD i 0<100:=by decide
   have:=this _ hyn;rw[IntKind.wrap_i64];omega
  have hwrap':=hwrap;simp only[ya] at hwrap';refine⟨tab32.getD (A / 134217728).toNat 0,?_⟩;repeat refine SL.n ?_
  refine SL.r ?_;refine SL.y (J 0) ?_;repeat refine SL.n ?_
  refine SL.r ?_;refine SL.y (.int .u32 x) ?_;refine SL.w (.bool false) rfl (fun T hT w hw=>by
   have h3:=hT.get (3,.int .u32 x) (by simp);exact⟨by simp[go_sem,Act.eval,h3,hx],by simp[go_sem,Act.eval,h3]⟩) ?_
  repeat refine SL.n ?_
  refine SL.c false ?_;repeat refine SL.n ?_
  refine SL.r ?_;refine SL.y (.int .u32 x) ?_;refine SL.y (.int .u32 x) ?_;refine SL.w (.int .u32 (IntKind.u32.wrap (0 - x))) rfl (fun T hT w hw=>by
   have h6:=hT.get (6,.int .u32 x) (by simp);exact⟨by simp[go_sem,Act.eval,h6,Op.unary],by simp[go_sem,Act.eval,h6,Op.unary]⟩) ?_
  refine SL.y (.int .u32 (bits .and .u32 x (IntKind.u32.wrap (0 - x)))) ?_;refine SL.w (.int .u32 A) rfl (fun T hT w hw=>by
   have h8:=hT.get (8,.int .u32 (bits .and .u32 x (IntKind.u32.wrap (0 - x)))) (by simp);exact⟨by simp[go_sem,Act.eval,h8,hA],by simp[go_sem,Act.eval,h8]⟩) ?_
  refine SL.y (.int .u32 (A / 134217728)) ?_;refine SL.w (.pointer (some ⟨0,(A / 134217728).toNat,none⟩)) rfl (fun T hT w hw=>by
   have h10:=hT.get (10,.int .u32 (A / 134217728)) (by simp);exact⟨by simp[go_sem,Act.eval,h10,hy.1,Int.not_le.mpr hy.2],by simp[go_sem,Act.eval,h10,hy.1,Int.not_le.mpr hy.2,Instr.indexAt]⟩) ?_
  refine SL.val rfl rfl rfl (by decide) (v1:=.int .u8 (tab32.getD (A / 134217728).toNat 0)) (es:=#[⟨.cell ⟨0,(A / 134217728).toNat,none⟩,false,false⟩]) (fun T hT w hw=>by
   have h11:=hT.get (11,.pointer (some ⟨0,(A / 134217728).toNat,none⟩)) (by simp);exact⟨by simp[go_sem,Act.eval,h11,hcell w hw],by simp[go_sem,Act.eval,h11,hcell w hw]⟩) (by intro e he;simp at he;subst he;exact⟨_,rfl,by show (0:Nat)<2;decide⟩) ?_
  change SL _ _ _ _ [(12,.int .u8 (tab32.getD (A / 134217728).toNat 0)),(11,.pointer (some ⟨0,(A / 134217728).toNat,none⟩)),(10,.int .u32 (A / 134217728)),(9,.int .u32 A),(8,.int .u32 (bits .and .u32 x (IntKind.u32.wrap (0 - x)))),(7,.int .u32 (IntKind.u32.wrap (0 - x))),(6,.int .u32 x),(5,.int .u32 x),(4,.bool false),(3,.int .u32 x),(2,J 0),(0,.int .u32 x)] _;refine SL.w (J (tab32.getD (A / 134217728).toNat 0)) rfl (fun T hT w hw=>by
   have h12:=hT.get (12,.int .u8 (tab32.getD (A / 134217728).toNat 0)) (by simp);exact⟨by simp[go_sem,Act.eval,h12,hwrap'],by simp[go_sem,Act.eval,h12];rfl⟩) ?_
  refine SL.y (J (tab32.getD (A / 134217728).toNat 0)) ?_;repeat refine SL.n ?_
  exact SL.ret Tryz.func234 rfl (by simp)
set_option maxRecDepth 100000 in
theorem sl235(x:Int):∃r,SL Tryz.prog Tabs 235 [.code (Tryz.f235.body.getD .skip)] [(0,.int .u64 x)] (J r):=by
 simp only[Tryz.f235,yv];by_cases hx:x=0
 ·subst hx;refine⟨64,?_⟩;repeat refine SL.n ?_
  refine SL.r ?_;refine SL.y (J 0) ?_;repeat refine SL.n ?_
  refine SL.r ?_;refine SL.y (.int .u64 0) ?_;refine SL.y (.bool true) ?_;repeat refine SL.n ?_
  refine SL.c true ?_;repeat refine SL.n ?_
  refine SL.r ?_;refine SL.y (J 64) ?_;repeat refine SL.n ?_
  exact SL.ret Tryz.func235 rfl (by simp)
 ·obtain⟨A,hA⟩:∃A,A=(IntKind.u64.wrap (bits .and .u64 x (IntKind.u64.wrap (0 - x)) * 285870213051353865)):=⟨_,rfl⟩;have hA1:0<=A/\A<18446744073709551616:=by rw[hA];simp[IntKind.wrap,IntKind.bits,IntKind.signed];omega
  have hy:0<=A / 288230376151711744/\A / 288230376151711744<64:=by omega
  have hyn:(A / 288230376151711744).toNat<64:=by omega
  have hcell:∀w,Tabs w->w.cell? ⟨1,(A / 288230376151711744).toNat,none⟩=some (.int .u8 (tab64.getD (A / 288230376151711744).toNat 0)):=fun w hw=>hw.2 _ hyn;have hwrap:IntKind.i64.wrap (tab64.getD (A / 288230376151711744).toNat 0)=tab64.getD (A / 288230376151711744).toNat 0:=by
   have:∀i,i<64->0<=tab64.getD i 0/\tab64.getD i 0<100:=by decide
   have:=this _ hyn;rw[IntKind.wrap_i64];omega
  have hwrap':=hwrap;simp only[ya] at hwrap';refine⟨tab64.getD (A / 288230376151711744).toNat 0,?_⟩;repeat refine SL.n ?_
  refine SL.r ?_;refine SL.y (J 0) ?_;repeat refine SL.n ?_
  refine SL.r ?_;refine SL.y (.int .u64 x) ?_;refine SL.w (.bool false) rfl (fun T hT w hw=>by
   have h3:=hT.get (3,.int .u64 x) (by simp);exact⟨by simp[go_sem,Act.eval,h3,hx],by simp[go_sem,Act.eval,h3]⟩) ?_
  repeat refine SL.n ?_
  refine SL.c false ?_;repeat refine SL.n ?_
  refine SL.r ?_;refine SL.y (.int .u64 x) ?_;refine SL.y (.int .u64 x) ?_;refine SL.w (.int .u64 (IntKind.u64.wrap (0 - x))) rfl (fun T hT w hw=>by
   have h6:=hT.get (6,.int .u64 x) (by simp);exact⟨by simp[go_sem,Act.eval,h6,Op.unary],by simp[go_sem,Act.eval,h6,Op.unary]⟩) ?_
  refine SL.y (.int .u64 (bits .and .u64 x (IntKind.u64.wrap (0 - x)))) ?_;refine SL.w (.int .u64 A) rfl (fun T hT w hw=>by
   have h8:=hT.get (8,.int .u64 (bits .and .u64 x (IntKind.u64.wrap (0 - x)))) (by simp);exact⟨by simp[go_sem,Act.eval,h8,hA],by simp[go_sem,Act.eval,h8]⟩) ?_
  refine SL.y (.int .u64 (A / 288230376151711744)) ?_;refine SL.w (.pointer (some ⟨1,(A / 288230376151711744).toNat,none⟩)) rfl (fun T hT w hw=>by
   have h10:=hT.get (10,.int .u64 (A / 288230376151711744)) (by simp);exact⟨by simp[go_sem,Act.eval,h10,hy.1,Int.not_le.mpr hy.2],by simp[go_sem,Act.eval,h10,hy.1,Int.not_le.mpr hy.2,Instr.indexAt]⟩) ?_
  refine SL.val rfl rfl rfl (by decide) (v1:=.int .u8 (tab64.getD (A / 288230376151711744).toNat 0)) (es:=#[⟨.cell ⟨1,(A / 288230376151711744).toNat,none⟩,false,false⟩]) (fun T hT w hw=>by
   have h11:=hT.get (11,.pointer (some ⟨1,(A / 288230376151711744).toNat,none⟩)) (by simp);exact⟨by simp[go_sem,Act.eval,h11,hcell w hw],by simp[go_sem,Act.eval,h11,hcell w hw]⟩) (by intro e he;simp at he;subst he;exact⟨_,rfl,by show (1:Nat)<2;decide⟩) ?_
  change SL _ _ _ _ [(12,.int .u8 (tab64.getD (A / 288230376151711744).toNat 0)),(11,.pointer (some ⟨1,(A / 288230376151711744).toNat,none⟩)),(10,.int .u64 (A / 288230376151711744)),(9,.int .u64 A),(8,.int .u64 (bits .and .u64 x (IntKind.u64.wrap (0 - x)))),(7,.int .u64 (IntKind.u64.wrap (0 - x))),(6,.int .u64 x),(5,.int .u64 x),(4,.bool false),(3,.int .u64 x),(2,J 0),(0,.int .u64 x)] _;refine SL.w (J (tab64.getD (A / 288230376151711744).toNat 0)) rfl (fun T hT w hw=>by
   have h12:=hT.get (12,.int .u8 (tab64.getD (A / 288230376151711744).toNat 0)) (by simp);exact⟨by simp[go_sem,Act.eval,h12,hwrap'],by simp[go_sem,Act.eval,h12];rfl⟩) ?_
  refine SL.y (J (tab64.getD (A / 288230376151711744).toNat 0)) ?_;repeat refine SL.n ?_
  exact SL.ret Tryz.func235 rfl (by simp)
theorem qqs{P:Program}{t:TypeId}{k:IntKind}{d:Nat}(ht:P.underlying t=some (.int k))(v:Value)(hv:∀x,v≠.int k x)(hp:∀a,v≠.pointer (some a))(w:World) :
 (∃s w',(Op.equalIn (d+1) t v (.int k 0)).run P w=.halt (.stuck s) w')\/∃w',(Op.equalIn (d+1) t v (.int k 0)).run P w=.halt (.unsupported .addressObserved) w':=by
 have:(underlying t).run P w=.ok (.int k) w:=by simp[underlying,go_sem,ht]
 unfold Op.equalIn;cases v <;> simp[go_sem,this]
 ·rename_i k' n
  have:k'≠k:=by rintro rfl;exact hv n rfl
  simp[this]
 ·rename_i a
  cases a with
  |none=>simp[go_sem]
  |some a=>exact absurd rfl (hp a)
theorem qne{P:Program}{t t':TypeId}{k:IntKind}(ht:P.underlying t=some (.int k))(b:Addr){T:Array Value}{j:Nat}(hj:T[j]?=some (.pointer (some b))){d:Option Nat}{ty:TypeId}{pos:String}{af:Array Edge}{g:Option (Nat × Bool)}(w:World) :
 (execOp (Act.eval ⟨T,[]⟩) { dst:=d,op:=.binOp .eql t (.tmp j) (.const (.int k 0)) t',type:=ty,pos:=pos,after:=af,guard:=g }).run P w=.ok (.value (.bool false)) w/\(execOp (Act.eval ⟨T,[]⟩) { dst:=d,op:=.binOp .eql t (.tmp j) (.const (.int k 0)) t',type:=ty,pos:=pos,after:=af,guard:=g }).events P w #[]=#[]:=by
 have hb:binOp .eql t (.pointer (some b)) (.int k 0)=(do pure (.bool (<-Op.equalIn (9999+1) t (.pointer (some b)) (.int k 0)))):=rfl;have hg:eqGuard .eql t (.tmp j) (.const (.int k 0)) (.pointer (some b)) (.int k 0)=pure ():=rfl;have e:∀d,(Op.equalIn (d+1) t (.pointer (some b)) (.int k 0)).run P w=.ok false w/\(Op.equalIn (d+1) t (.pointer (some b)) (.int k 0)).events P w #[]=#[]:=by
  intro d;have hu:(underlying t).run P w=.ok (.int k) w:=by simp[underlying,go_sem,ht]
  have hu':(underlying t).events P w #[]=#[]:=by simp[underlying,go_sem,ht]
  unfold Op.equalIn;constructor
  ·simp[go_sem,hu]
  ·simp[go_sem,hu,hu']
 have e:=e 9999;generalize 9999+1=d at hb e;constructor
 ·simp[go_sem,Act.eval,hj,hg,hb,e.1]
 ·simp[go_sem,Act.eval,hj,hg,hb,e.2]
theorem qku{P:Program}{t t':TypeId}{k:IntKind}(ht:P.underlying t=some (.int k))(v:Value)(hv:∀x,v≠.int k x)(hp:∀a,v≠.pointer (some a)){T:Array Value}{j:Nat}(hj:T[j]?=some v){d:Option Nat}{ty:TypeId}{pos:String}{af:Array Edge}{g:Option (Nat × Bool)}(w:World) :
 (∃s w',(execOp (Act.eval ⟨T,[]⟩) { dst:=d,op:=.binOp .eql t (.tmp j) (.const (.int k 0)) t',type:=ty,pos:=pos,after:=af,guard:=g }).run P w=.halt (.stuck s) w')\/∃w',(execOp (Act.eval ⟨T,[]⟩) { dst:=d,op:=.binOp .eql t (.tmp j) (.const (.int k 0)) t',type:=ty,pos:=pos,after:=af,guard:=g }).run P w=.halt (.unsupported .addressObserved) w':=by
 have hg:eqGuard .eql t (.tmp j) (.const (.int k 0)) v (.int k 0)=pure ():=by
  unfold eqGuard;cases v <;> rfl
 have h:=qqs (P:=P) (d:=9999) ht v hv hp w;have hb:(∃k' x,v=.int k' x/\k'≠k)\/binOp .eql t v (.int k 0)=(do pure (.bool (<-Op.equalIn (9999+1) t v (.int k 0)))):=by
  cases v <;> try exact .inr rfl
  rename_i k' x
  exact .inl ⟨k',x,rfl,by rintro rfl;exact hv x rfl⟩
 rcases hb with ⟨k',x,rfl,hne⟩|hb
 ·left;simp[go_sem,Act.eval,hj,binOp,hne]
 ·rcases h with ⟨s,w',h⟩|⟨w',h⟩
  ·exact .inl ⟨s,w',by simp[go_sem,Act.eval,hj,hg,hb,h]⟩
  ·exact .inr ⟨w',by simp[go_sem,Act.eval,hj,hg,hb,h]⟩
set_option maxRecDepth 100000 in
theorem st234(v:Value)(hv:∀x,v≠.int .u32 x):ST Tryz.prog Tabs 234 [.code (Tryz.f234.body.getD .skip)] [(0,v)]:=by
 have ht:Tryz.prog.underlying 146=some (.int .u32):=by kernel_rfl
 simp only[Tryz.f234,yv];repeat refine ST.n ?_
 refine ST.r ?_;refine ST.y (J 0) ?_;repeat refine ST.n ?_
 refine ST.r ?_;refine ST.y (v) ?_;by_cases hp:∃a,v=.pointer (some a)
 ·obtain⟨a,rfl⟩:=hp;refine ST.val rfl rfl rfl (by decide) (v1:=.bool false) (es:=#[]) (fun T hT w hw=>by
   have h3:=hT.get (3,.pointer (some a)) (by simp);exact qne ht a h3 w) ?_
  change ST _ _ _ _ [(4,.bool false),(3,.pointer (some a)),(2,J 0),(0,.pointer (some a))];repeat refine ST.n ?_
  refine ST.c false ?_;repeat refine ST.n ?_
  refine ST.r ?_;refine ST.y (.pointer (some a)) ?_;refine ST.y (.pointer (some a)) ?_;refine ST.now rfl rfl (fun T hT w hw=>?_);have h6:=hT.get (6,.pointer (some a)) (by simp);exact .inr ⟨w,by simp[go_sem,Act.eval,h6,Op.unary]⟩
 ·refine ST.now rfl rfl (fun T hT w hw=>?_);have h3:=hT.get (3,v) (by simp);exact qku ht v hv (fun a e=>hp ⟨a,e⟩) h3 w
set_option maxRecDepth 100000 in
theorem st235(v:Value)(hv:∀x,v≠.int .u64 x):ST Tryz.prog Tabs 235 [.code (Tryz.f235.body.getD .skip)] [(0,v)]:=by
 have ht:Tryz.prog.underlying 143=some (.int .u64):=by kernel_rfl
 simp only[Tryz.f235,yv];repeat refine ST.n ?_
 refine ST.r ?_;refine ST.y (J 0) ?_;repeat refine ST.n ?_
 refine ST.r ?_;refine ST.y (v) ?_;by_cases hp:∃a,v=.pointer (some a)
 ·obtain⟨a,rfl⟩:=hp;refine ST.val rfl rfl rfl (by decide) (v1:=.bool false) (es:=#[]) (fun T hT w hw=>by
   have h3:=hT.get (3,.pointer (some a)) (by simp);exact qne ht a h3 w) ?_
  change ST _ _ _ _ [(4,.bool false),(3,.pointer (some a)),(2,J 0),(0,.pointer (some a))];repeat refine ST.n ?_
  refine ST.c false ?_;repeat refine ST.n ?_
  refine ST.r ?_;refine ST.y (.pointer (some a)) ?_;refine ST.y (.pointer (some a)) ?_;refine ST.now rfl rfl (fun T hT w hw=>?_);have h6:=hT.get (6,.pointer (some a)) (by simp);exact .inr ⟨w,by simp[go_sem,Act.eval,h6,Op.unary]⟩
 ·refine ST.now rfl rfl (fun T hT w hw=>?_);have h3:=hT.get (3,v) (by simp);exact qku ht v hv (fun a e=>hp ⟨a,e⟩) h3 w
theorem qnf(args:Array Value):∃v,Env (args++Array.replicate (14 - args.size) undef) [(0,v)]/\∀(π:Perm) (k:IntKind) (x:Int),v=.int k x->Env (args.map (Value.pm π)++Array.replicate (14 - (args.map (Value.pm π)).size) undef) [(0,v)]:=by
 by_cases h:args.size=0
 ·obtain rfl:args=#[]:=Array.eq_empty_of_size_eq_zero h;refine⟨undef,⟨by simp,by simp⟩,fun π k x e=>?_⟩;cases e
 ·have h0:0<args.size:=by omega
  refine⟨args[0],⟨by simp;omega,?_⟩,fun π k x e=>⟨by simp;omega,?_⟩⟩
  ·simp[Array.getElem?_append,h0]
  ·simp[Array.getElem?_append,h0,e,Value.pm]
def leafLaw:LeafLaw Tryz.prog fam where
 T:=Tabs
 loc:=by
  intro w w' h hT;have h0:=h 0 (by decide);have h1:=h 1 (by decide);refine⟨fun i hi=>?_,fun i hi=>?_⟩
  ·rw[<-hT.1 i hi];simp only[World.cell?,h0]
  ·rw[<-hT.2 i hi];simp only[World.cell?,h1]
 law:=by
  intro f args hf _;obtain⟨v,hE,hE'⟩:=qnf args;have hf:f=234\/f=235:=by
   simp only[fam,Bool.or_eq_true,beq_iff_eq] at hf;exact hf
  rcases hf with rfl|rfl
  ·by_cases hv:∃x,v=.int .u32 x
   ·obtain⟨x,rfl⟩:=hv;obtain⟨r,hr⟩:=sl234 x;refine .inl ⟨.i64,r,fun π=>?_⟩;rw[enter_at _ Tryz.func234 rfl,enter_at _ Tryz.func234 rfl];exact hr _ _ hE (hE' π _ _ rfl)
   ·refine .inr ?_;rw[enter_at _ Tryz.func234 rfl];exact st234 v (fun x e=>hv ⟨x,e⟩) _ hE
  ·by_cases hv:∃x,v=.int .u64 x
   ·obtain⟨x,rfl⟩:=hv;obtain⟨r,hr⟩:=sl235 x;refine .inl ⟨.i64,r,fun π=>?_⟩;rw[enter_at _ Tryz.func235 rfl,enter_at _ Tryz.func235 rfl];exact hr _ _ hE (hE' π _ _ rfl)
   ·refine .inr ?_;rw[enter_at _ Tryz.func235 rfl];exact st235 v (fun x e=>hv ⟨x,e⟩) _ hE
end
end Go.Cr
