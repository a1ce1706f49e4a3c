import Derived.Test.YtoklolfaemhfnaaGreatDoorZab
import Derived.Test.YtoklolfaemhfnaaGreatDoorZau
import Derived.Test.YtoklolfaemhfnaaGreatDoorZay
set_option maxRecDepth 100000
set_option maxHeartbeats 0
set_option linter.defProp false
open Go.Proofs.Tryz
namespace Go.Cr
section
open Go Go.Conc Go.RowKit Go.Proofs Go.Pm
variable {T:ϡ}{x:Operand}{c1 c2 c3:Code}{l':List (Nat×Θ)}{es:Array Event}{t:Bool}{id j:Nat}{q:Ϙ}{g:Option (Nat×Bool)}
def iy:Array Int:=#[0,1,28,2,29,14,24,3,30,22,20,15,25,17,4,8,31,27,13,23,21,19,16,7,26,12,18,6,11,5,10,9]
def gO:Array Int:=#[0,1,56,2,57,49,28,3,61,58,42,50,38,29,17,4,62,47,59,36,45,43,51,22,53,39,33,30,24,18,12,5,63,55,48,27,60,41,37,16,46,35,44,21,52,32,23,11,54,26,40,15,34,20,31,10,25,14,19,9,13,8,7,6]
def Tabs(w:Δ):Prop:=(∀i,i<32->w.cell? (aT 0 i)=some (.int .u8 (iy.getD i 0)))/\(∀i,i<64->w.cell? (aT 1 i)=some (.int .u8 (gO.getD i 0)))
structure xm(T:ϡ)(l:List (Nat×Θ)):Prop where
 size:14<=T.size
 get:∀p∈l,T[p.1]?=some p.2
def xm.put{l:List (Nat×Θ)}(h:xm T l){d:Nat}(e:d<14)(v:Θ):xm (T.setIfInBounds d v) ((d,v)::l.filter λp=>p.1 !=d):=by refine⟨ϰ h.size,λp a=>?_⟩;have c:=h.size;rcases yF.1 a with rfl|a;grind;let⟨a,b⟩:=yM.1 a;rw[yP ν];exact h.get p a
section
variable {P:ϛ}{TT:Ξ}{f:FuncId}{v:Θ}
def SL(P:ϛ)(TT:Ξ)(f:FuncId)(k:List Item)(l:List (Nat×Θ))(v:Θ):Prop:=∀T T',xm T l->xm T' l->fW P TT 2 ((base f).at ⟨T,[]⟩ k) ((base f).at ⟨T',[]⟩ k) v
def ST(P:ϛ)(TT:Ξ)(f:FuncId)(k:List Item)(l:List (Nat×Θ)):Prop:=∀T,xm T l->kW P TT ((base f).at ⟨T,[]⟩ k)
variable {k k':List Item}{l:List (Nat×Θ)}{ops:Array Oper}{i d:Nat}{rest:Ϙ}{o:Oper}{v1:Θ}
theorem SL.e(h:∀b c w(a:Act),stepG P b (G ((base f).at a k) c) w=.go (G ((base f).at a k') c) w)(n:SL P TT f k' l v):SL P TT f k l v:=
 λT p m e=>.step rfl (λw b c _=>h b c w _) (λw b c _=>h b c w _) ς (n T p m e)
theorem ST.e(h:∀b c w(a:Act),stepG P b (G ((base f).at a k) c) w=.go (G ((base f).at a k') c) w)(m:ST P TT f k' l):ST P TT f k l:=
 λT e=>.step (λw b c _=>h b c w _) (m T e)
def oP(n:ops[i]?=some o)(m:o.guard=none)(h:o.dst=some d)(e:∀w,TT w->(execOp (Act.eval ⟨T,[]⟩) o).run P w=.ok (.value v1) w/\(execOp (Act.eval ⟨T,[]⟩) o).events P w #[]=es):∀(w:Δ)(a:Bool)(b:List Frame),TT w->stepG P a (G ((base f).at ⟨T,[]⟩ (.inRegion ops (i::rest)::k)) b) w=.go (G ((base f).at ⟨T.setIfInBounds d v1,[]⟩ (.inRegion ops rest::k)) b) w (seen P f es):=λw a b c=>by
 rw[stepG_value n (by simp[Region.wanted,m]) (by simp[base]) (e w c).1];unfold listed;rw[(e w c).2,h];simp[Act.put,base]
def SL.a(s:ops[i]?=some o)(n:o.guard=none)(r:o.dst=some d)(c:d<14)(m:∀T,xm T l->∀w,TT w->(execOp (Act.eval ⟨T,[]⟩) o).run P w=.ok (.value v1) w/\(execOp (Act.eval ⟨T,[]⟩) o).events P w #[]=es)(y:∀e∈es,∃a:Addr,e=⟨.cell a,false,false⟩/\a.block<2)(z:SL P TT f (.inRegion ops rest::k) ((d,v1)::l.filter λp=>p.1 !=d) v):SL P TT f (.inRegion ops (i::rest)::k) l v:=
 λT A h b=>.step rfl (oP s n r (m T h)) (oP s n r (m A b)) (λe u=>y e (jB P f es e u)) (z _ _ (h.put c v1) (b.put c v1))
def ST.a(m:ops[i]?=some o)(h:o.guard=none)(e:o.dst=some d)(a:d<14)(c:∀T,xm T l->∀w,TT w->(execOp (Act.eval ⟨T,[]⟩) o).run P w=.ok (.value v1) w/\(execOp (Act.eval ⟨T,[]⟩) o).events P w #[]=es)(n:ST P TT f (.inRegion ops rest::k) ((d,v1)::l.filter λp=>p.1 !=d)):ST P TT f (.inRegion ops (i::rest)::k) l:=
 λT b=>.step (oP m h e (c T b)) (n _ (b.put a v1))
def mK(c:Act.eval ⟨T,[]⟩ x=.bool t)(a:Bool)(b:List Frame)(w:Δ):stepG P a (G ((base f).at ⟨T,[]⟩ (.code (.cond x c1 c2)::k)) b) w=.go (G ((base f).at ⟨T,[]⟩ (.code (if t then c1 else c2)::k)) b) w:=stepG_cond c
def SL.b(h:∀T,xm T l->Act.eval ⟨T,[]⟩ x=.bool t)(n:SL P TT f (.code (if t then c1 else c2)::k) l v):SL P TT f (.code (.cond x c1 c2)::k) l v:=
 λT m e b=>.step rfl (λw a c _=>mK (h T e) a c w) (λw a c _=>mK (h m b) a c w) ς (n T m e b)
def ST.b(c:∀T,xm T l->Act.eval ⟨T,[]⟩ x=.bool t)(h:ST P TT f (.code (if t then c1 else c2)::k) l):ST P TT f (.code (.cond x c1 c2)::k) l:=
 λT b=>.step (λw a e _=>mK (c T b) a e w) (h T b)
def SL.ret{h:Func}{t:Nat}(e:P.funcs[f]?=some h)(c:h.results=#[.tmp t])(m:(t,v)∈l):SL P TT f (.code .ret::k) l v:=by intro T r n b;refine .step rfl (λw a p _=>stepG_ret') (λw a p _=>stepG_ret') ς (.ret rfl rfl rfl e (λw _=>?_) rfl rfl rfl e λw _=>?_);have:=n.get _ m;simp[results,c,Frame.at,this];have:=b.get _ m;simp[results,c,Frame.at,this]
def ST.now(p:ops[i]?=some o)(n:o.guard=none)(m:∀T,xm T l->∀w,TT w->(∃s a,(execOp (Act.eval ⟨T,[]⟩) o).run P w=.halt (.stuck s) a)\/∃a,(execOp (Act.eval ⟨T,[]⟩) o).run P w=.halt (.unsupported .addressObserved) a):ST P TT f (.inRegion ops (i::rest)::k) l:=by intro T c;refine .now λw b r e=>?_;rw[stepG_oper p (by simp[Region.wanted,n])];rcases m T c w e with ⟨s,a,h⟩|⟨a,h⟩;simp[stepG.apply,h,GStep.after];simp[stepG.apply,h,GStep.after]
def SL.n(a:SL P TT f k' l v)(h:Nx k k':=by constructor):SL P TT f k l v:=(by grind[e,Nx.step])
def ST.n(a:ST P TT f k' l)(h:Nx k k':=by constructor):ST P TT f k l:=(by grind[e,Nx.step])
def SL.r(b:SL P TT f (.inRegion ops q::k) l v)(a:List.range ops.size=q:=by (simp only[yJ,yx,yD,yS,Nat.reduceAdd,List.range,List.range.loop];exact rfl)):SL P TT f (.code (.region id ops false)::k) l v:=(by grind[e,sR])
def ST.r(b:ST P TT f (.inRegion ops q::k) l)(a:List.range ops.size=q:=by (simp only[yJ,yx,yD,yS,Nat.reduceAdd,List.range,List.range.loop];exact rfl)):ST P TT f (.code (.region id ops false)::k) l:=(by grind[e,sR])
def Yl(P:ϛ)(TT:Ξ)(l:List (Nat×Θ))(o:Oper)(v1:Θ):Prop:=∀T,xm T l->∀w,TT w->(execOp (Act.eval ⟨T,[]⟩) o).run P w=.ok (.value v1) w/\(execOp (Act.eval ⟨T,[]⟩) o).events P w #[]=#[]
def SL.w(b:Θ)(n:ops[i]?=some o)(c:Yl P TT l o b)(r:SL P TT f (.inRegion ops rest::k) l' v)(m:o.guard=none:=by exact rfl)(h:o.dst=some d:=by exact rfl)(a:d<14:=by decide)(e:(d,b)::l.filter (λp=>p.1 !=d)=l':=by (simp only[List.filter,Nat.reduceBNe];exact rfl)):SL P TT f (.inRegion ops (i::rest)::k) l v:=SL.a n m h a c ς (e▸r)
def ST.w(b:Θ)(n:ops[i]?=some o)(c:Yl P TT l o b)(r:ST P TT f (.inRegion ops rest::k) l')(m:o.guard=none:=by exact rfl)(h:o.dst=some d:=by exact rfl)(a:d<14:=by decide)(e:(d,b)::l.filter (λp=>p.1 !=d)=l':=by (simp only[List.filter,Nat.reduceBNe];exact rfl)):ST P TT f (.inRegion ops (i::rest)::k) l:=ST.a n m h a c (e▸r)
def SL.y(a:Θ)(s:SL P TT f (.inRegion ops rest::k) l' v)(r:ops[i]?=some o:=by exact rfl)(n:o.guard=none:=by exact rfl)(m:o.dst=some d:=by exact rfl)(b:d<14:=by decide)(c:Yl P TT l o a:=by (intro T hT w hw;have h:=hT.get;simp only[yF,yU,or_false,forall_eq_or_imp,forall_eq]at h;exact⟨by simp[go_sem,Act.eval,h],by simp[go_sem,Act.eval,h]⟩))(e:(d,a)::l.filter (λp=>p.1 !=d)=l':=by (simp only[List.filter,Nat.reduceBNe];exact rfl)):SL P TT f (.inRegion ops (i::rest)::k) l v:=SL.w a r c s n m b e
def ST.y(a:Θ)(s:ST P TT f (.inRegion ops rest::k) l')(r:ops[i]?=some o:=by exact rfl)(n:o.guard=none:=by exact rfl)(m:o.dst=some d:=by exact rfl)(b:d<14:=by decide)(c:Yl P TT l o a:=by (intro T hT w hw;have h:=hT.get;simp only[yF,yU,or_false,forall_eq_or_imp,forall_eq]at h;exact⟨by simp[go_sem,Act.eval,h],by simp[go_sem,Act.eval,h]⟩))(e:(d,a)::l.filter (λp=>p.1 !=d)=l':=by (simp only[List.filter,Nat.reduceBNe];exact rfl)):ST P TT f (.inRegion ops (i::rest)::k) l:=ST.w a r c s n m b e
def SL.c(t:Bool)(c:SL P TT f (.code c3::k) l v)(a:∀T,xm T l->Act.eval ⟨T,[]⟩ x=.bool t:=by (intro T hT;have h:=hT.get;simp only[yF,yU,or_false,forall_eq_or_imp,forall_eq]at h;simp[Act.eval,h]))(b:(if t then c1 else c2)=c3:=by exact rfl):SL P TT f (.code (.cond x c1 c2)::k) l v:=SL.b a (b▸c)
def ST.c(t:Bool)(c:ST P TT f (.code c3::k) l)(a:∀T,xm T l->Act.eval ⟨T,[]⟩ x=.bool t:=by (intro T hT;have h:=hT.get;simp only[yF,yU,or_false,forall_eq_or_imp,forall_eq]at h;simp[Act.eval,h]))(b:(if t then c1 else c2)=c3:=by exact rfl):ST P TT f (.code (.cond x c1 c2)::k) l:=ST.b a (b▸c)
end
set_option maxRecDepth 100000 in
def KB(x:Int):∃r,SL prog Tabs 235 [.code (f235.body.getD .skip)] [(0,.int .u64 x)] (J r):=by
 by_cases p:x=0
 .subst p;refine⟨64,?_⟩;repeat refine SL.n ?_
  refine SL.r ?_;refine SL.y (J 0) ?_;repeat refine SL.n ?_
  refine SL.r ?_;refine SL.y (.int .u64 0) ?_;refine SL.y (.bool true) ?_;repeat refine SL.n ?_
  refine SL.c true ?_;repeat refine SL.n ?_
  refine SL.r ?_;refine SL.y (J 64) ?_;repeat refine SL.n ?_
  simp[SL.ret]
 obtain⟨A,z⟩:∃A,A=(IntKind.u64.wrap (bits .and .u64 x (IntKind.u64.wrap (0-x))*285870213051353865)):=⟨_,rfl⟩;have B:0<=A/\A<18446744073709551616:=by rw[z];simp[IntKind.wrap,IntKind.bits,IntKind.signed];lia
 have o:0<=A/288230376151711744/\A/288230376151711744<64:=ω;have m:(A/288230376151711744).toNat<64:=ω;have d:∀w,Tabs w->w.cell? ⟨1,(A/288230376151711744).toNat,none⟩=some (.int .u8 (gO.getD (A/288230376151711744).toNat 0)):=λw e=>e.2 _ m;have f:IntKind.i64.wrap (gO.getD (A/288230376151711744).toNat 0)=gO.getD (A/288230376151711744).toNat 0:=by have:∀i,i<64->0<=gO.getD i 0/\gO.getD i 0<100:=θ;have:=this _ m;rw[IntKind.wrap_i64];lia
 have a:=f;simp only[ya]at a;refine⟨gO.getD (A/288230376151711744).toNat 0,?_⟩;repeat refine SL.n ?_
 refine SL.r ?_;refine SL.y (J 0) ?_;repeat refine SL.n ?_
 refine SL.r ?_;refine SL.y (.int .u64 x) ?_;refine SL.w (.bool false) rfl (λT b w e=>
  have s:=b.get (3,.int .u64 x) ς
  ⟨by simp[go_sem,Act.eval,s,p],by simp[go_sem,Act.eval,s]⟩) ?_
 repeat refine SL.n ?_
 refine SL.c false ?_;repeat refine SL.n ?_
 refine SL.r ?_;refine SL.y (.int .u64 x) ?_;refine SL.y (.int .u64 x) ?_;refine SL.w (.int .u64 (IntKind.u64.wrap (0-x))) rfl (λT b w e=>
  have u:=b.get (6,.int .u64 x) ς
  ⟨by simp[go_sem,Act.eval,u,Op.unary],by simp[go_sem,Act.eval,u,Op.unary]⟩) ?_
 refine SL.y (.int .u64 (bits .and .u64 x (IntKind.u64.wrap (0-x)))) ?_;refine SL.w (.int .u64 A) rfl (λT b w e=>
  have v:=b.get (8,.int .u64 (bits .and .u64 x (IntKind.u64.wrap (0-x)))) ς
  ⟨by simp[go_sem,Act.eval,v,z],by simp[go_sem,Act.eval,v]⟩) ?_
 refine SL.y (.int .u64 (A/288230376151711744)) ?_;refine SL.w (.pointer (some ⟨1,(A/288230376151711744).toNat,none⟩)) rfl (λT b w e=>
  have h:=b.get (10,.int .u64 (A/288230376151711744)) ς
  ⟨by simp[go_sem,Act.eval,h,o.1,Int.not_le.mpr o.2],by simp[go_sem,Act.eval,h,o.1,Int.not_le.mpr o.2,Instr.indexAt]⟩) ?_
 refine SL.a rfl rfl rfl θ (v1:=.int .u8 (gO.getD (A/288230376151711744).toNat 0)) (es:=#[⟨.cell ⟨1,(A/288230376151711744).toNat,none⟩,false,false⟩]) (λT b w e=>
  have k:=b.get (11,.pointer (some ⟨1,(A/288230376151711744).toNat,none⟩)) ς
  ⟨by simp[go_sem,Act.eval,k,d w e],by simp[go_sem,Act.eval,k,d w e]⟩) ς ?_
 change SL _ _ _ _ _ _;refine SL.w (J (gO.getD (A/288230376151711744).toNat 0)) rfl (λT b w e=>
  have l:=b.get (12,.int .u8 (gO.getD (A/288230376151711744).toNat 0)) ς
  ⟨by simp[go_sem,Act.eval,l,a],by simp[go_sem,Act.eval,l];rfl⟩) ?_
 refine SL.y (J (gO.getD (A/288230376151711744).toNat 0)) ?_;repeat refine SL.n ?_
 simp[SL.ret]
def Fw{P:ϛ}{t:ϟ}{k:IntKind}{d:Nat}(c:P.underlying t=some (.int k))(v:Θ)(f:∀x,v≠.int k x)(e:∀a,v≠.pointer (some a))(w:Δ):(∃s b,(Op.equalIn (d+1) t v (.int k 0)).run P w=.halt (.stuck s) b)\/∃b,(Op.equalIn (d+1) t v (.int k 0)).run P w=.halt (.unsupported .addressObserved) b:=by
 have:(underlying t).run P w=.ok (.int k) w:=by simp[underlying,go_sem,c]
 unfold Op.equalIn;cases v<;>simp[go_sem,this]
 .simp_all
 rename_i a
 rcases a with _|a
 .simp[go_sem]
 exact absurd rfl (e a)
def zF{P:ϛ}{t f:ϟ}{k:IntKind}(o:P.underlying t=some (.int k))(b:Addr)(l:T[j]?=some (.pointer (some b))){d:Option Nat}{h:ϟ}{a:String}{n:Array Edge}(w:Δ):(execOp (Act.eval ⟨T,[]⟩) {dst:=d,op:=.binOp .eql t (.tmp j) (.const (.int k 0)) f,type:=h,pos:=a,after:=n,guard:=g}).run P w=.ok (.value (.bool false)) w/\(execOp (Act.eval ⟨T,[]⟩) {dst:=d,op:=.binOp .eql t (.tmp j) (.const (.int k 0)) f,type:=h,pos:=a,after:=n,guard:=g}).events P w #[]=#[]:=by
 have p:binOp .eql t (.pointer _) (.int k 0)=(do pure (.bool (<-Op.equalIn (9999+1) t (.pointer (some b)) (.int k 0)))):=rfl;have m:eqGuard .eql t (.tmp j) (.const (.int k 0)) (.pointer (some b)) (.int k 0)=pure ():=rfl;have e:∀d,(Op.equalIn (d+1) t (.pointer (some b)) (.int k 0)).run P w=.ok false w/\(Op.equalIn (d+1) t (.pointer (some b)) (.int k 0)).events P w #[]=#[]:=by
  intro d;have i:(underlying t).run P w=.ok (.int k) w:=by simp[underlying,go_sem,o]
  unfold Op.equalIn;constructor
  .simp[go_sem,i]
  simp[go_sem,i,(by simp[underlying,go_sem,o]:(underlying t).events P w #[]=#[])]
 have e:=e 9999;constructor
 .simp[go_sem,Act.eval,l,m,p,e.1]
 simp[go_sem,Act.eval,l,m,p,e.2]
def uf{P:ϛ}{t m:ϟ}{k:IntKind}(u:P.underlying t=some (.int k))(v:Θ)(r:∀x,v≠.int k x)(y:∀a,v≠.pointer (some a))(i:T[j]?=some v){d:Option Nat}{n:ϟ}{e:String}{p:Array Edge}(w:Δ):(∃s b,(execOp (Act.eval ⟨T,[]⟩) {dst:=d,op:=.binOp .eql t (.tmp j) (.const (.int k 0)) m,type:=n,pos:=e,after:=p,guard:=g}).run P w=.halt (.stuck s) b)\/∃b,(execOp (Act.eval ⟨T,[]⟩) {dst:=d,op:=.binOp .eql t (.tmp j) (.const (.int k 0)) m,type:=n,pos:=e,after:=p,guard:=g}).run P w=.halt (.unsupported .addressObserved) b:=by
 have o:eqGuard .eql t (.tmp j) (.const (.int k 0)) v (.int k 0)=pure ():=by unfold eqGuard;cases v<;>rfl
 have h:=Fw (d:=9999) u v r y w;have f:(∃c x,v=.int c x/\c≠k)\/binOp .eql t v (.int k 0)=(do pure (.bool (<-Op.equalIn (9999+1) t v (.int k 0)))):=by
  cases v<;>try exact .inr rfl
  rename_i c x
  exact .inl ⟨c,x,rfl,ν⟩
 rcases f with ⟨c,x,rfl,l⟩|f
 .left;simp[go_sem,Act.eval,i,binOp,l]
 rcases h with ⟨s,b,h⟩|⟨b,h⟩
 .exact .inl ⟨s,b,by simp[go_sem,Act.eval,i,o,f,h]⟩
 exact .inr ⟨b,by simp[go_sem,Act.eval,i,o,f,h]⟩
set_option maxRecDepth 100000 in
def KD(v:Θ)(l:∀x,v≠.int .u64 x):ST prog Tabs 235 [.code (f235.body.getD .skip)] [(0,v)]:=by
 have h:prog.underlying 143=some (.int .u64):=κ;repeat refine ST.n ?_
 refine ST.r ?_;refine ST.y (J 0) ?_;repeat refine ST.n ?_
 refine ST.r ?_;refine ST.y (v) ?_;by_cases i:∃a,v=.pointer (some a)
 .obtain⟨a,rfl⟩:=i;refine ST.a rfl rfl rfl θ (λT b w f=>
   have d:=b.get (3,.pointer (some a)) ς;zF h a d w) ?_
  change ST _ _ _ _ [(4,.bool false),(3,.pointer (some a)),(2,J 0),(0,.pointer (some a))];repeat refine ST.n ?_
  refine ST.c false ?_;repeat refine ST.n ?_
  refine ST.r ?_;refine ST.y (.pointer (some a)) ?_;refine ST.y (.pointer (some a)) ?_;refine ST.now rfl rfl λT b w f=>?_;have k:=b.get (6,.pointer (some a)) ς;exact .inr ⟨w,by simp[go_sem,Act.eval,k,Op.unary]⟩
 refine ST.now rfl rfl λT b w f=>?_;have d:=b.get (3,v) ς;exact uf h v l (λa e=>i ⟨a,e⟩) d w
def AL(a:ϡ):∃v,xm (a++Array.replicate (14-a.size) undef) [(0,v)]/\∀(b:Perm)(k:IntKind)(x:Int),v=.int k x->xm (a.map b.v++Array.replicate (14-(a.map b.v).size) undef) [(0,v)]:=by
 by_cases h:a.size=0
 obtain rfl:a=#[]:=(by grind);refine⟨undef,⟨ς,ς⟩,λb k x e=>?_⟩;cases e;have c:0<a.size:=ω;refine⟨a[0],⟨ν,?_⟩,λb k x e=>⟨ν,?_⟩⟩;grind;grind[Value.pm]
def leafLaw:da prog fam where
 T:=Tabs
 a:=by
   intro w w' h hT;have h0:=h 0 θ;have h1:=h 1 θ;refine⟨λi hi=>?_,λi hi=>?_⟩;rw[<-hT.1 i hi];simp only[World.cell?,h0]
   .rw[<-hT.2 i hi];simp only[World.cell?,h1]
 c:=by
   intro f args hf _;let⟨v,hE,hE'⟩:=AL args;have hf:f=235:=by simpa[fam]using hf
   subst hf;by_cases hv:∃x,v=.int .u64 x;obtain⟨x,rfl⟩:=hv;let⟨r,hr⟩:=KB x;refine .inl ⟨.i64,r,λU=>?_⟩;rw[enter_at _ func235 rfl,enter_at _ func235 rfl];exact hr _ _ hE (hE' U _ _ rfl);refine .inr ?_;rw[enter_at _ func235 rfl];exact KD v (λx e=>hv ⟨x,e⟩) _ hE
