import Derived.Maps.RangeRun
import Derived.WideKeyRuns
import Derived.ChangeMaps4
import Derived.Maps.RangeWalk
import Derived.Shelf.SlMaps.DeleteFunc
import Derived.BigRegion
import Derived.Deep.RegionWith
import Derived.ChangeAlike
import Derived.Shelf.SlSortCmp.WholeK
import Derived.Test.YtoklolfaemhfnaaGreatDoorZac
import Derived.Test.YtoklolfaemhfnaaGreatDoorZas
import Derived.Test.YtoklolfaemhfnaaGreatDoorZbb
set_option maxRecDepth 100000
set_option maxHeartbeats 0
set_option linter.defProp false
open Go.Proofs.Tryz
namespace Go.Proofs.Y
section
open Go.RowKit
open Go.ChangeMaps (setBlock)
variable {es:Array MapEntry}{clk mb:Nat}{l:List (ϥ×Θ)}{s q:Int}{x:ϥ×Θ}
def bQ(s q:Int):Θ:=.agg #[J s,J q]
def GL:(match prog.underlying 186 with|some (.array _ _)|some (.struct _)=>true|_=>false)=true:=κ
def sf(w:Δ)(b:ϡ)(a:Nat){v:Θ}(h:b[a]?=some v):(part 3 b a).run prog w=.ok v w:=by simp[part,go_sem,h]
def Eo(d:Nat)(w:Δ)(a b:Int):(Op.equalIn (d+1) 3 (J a) (J b)).run prog w=.ok (a==b) w:=by unfold Op.equalIn;simp[go_sem]
def En(w:Δ)(s q a b:Int):(Op.equal 186 (bQ s q) (bQ a b)).run prog w=.ok (s==a&&q==b) w:=
 have c:∀d,(Op.equalIn (d+1+1) 186 (bQ s q) (bQ a b)).run prog w=.ok (s==a&&q==b) w:=by intro d;have j:=sf w #[J s,J q] 0 rfl;have h:=sf w #[J a,J b] 0 rfl;have m:=sf w #[J s,J q] 1 rfl;have g:=sf w #[J a,J b] 1 rfl;have i:=Eo d w s a;have k:=Eo d w q b;unfold Op.equalIn;by_cases f:s=a<;>by_cases e:q=b<;>simp[go_sem,bQ,f,e]
 c 9998
def mi(w:Δ)(c:Bool)(s q:Int):(Instr.checkKey c 10000 186 (bQ s q)).run prog w=.ok () w:=
 have d:∀n a,(Instr.checkKey c (n+1) 3 (J a)).run prog w=.ok () w:=by intro n a;unfold Instr.checkKey;simp[go_sem]
 have b:∀n,(Instr.checkKey c (n+1+1) 186 (bQ s q)).run prog w=.ok () w:=by intro n;have g:=sf w #[J s,J q] 0 rfl;have h:=sf w #[J s,J q] 1 rfl;unfold Instr.checkKey;simp[go_sem,bQ,(d n s),(d n q)]
 b 9998
structure dX(es:Array MapEntry)(clk:Nat)(l:List (ϥ×Θ)):Prop where
 key:es.toList.map (·.key)=l.map λx=>bQ x.1.a x.1.seq
 val:es.toList.map (·.val)=l.map λx=>aU x.1 x.2
 born:(es.toList.map (·.born)).Nodup
 b:∀e∈es.toList,e.born<clk
def gL(s q:Int)(m:ϥ):Bool:=m.a==s&&m.seq==q
def cu{m:ϥ}:gL s q m=true↔m.a=s/\m.seq=q:=by simp[gL]
def mr(s q:Int):List (ϥ×Θ)->Nat->Option (Nat×Θ)
 |[],_=>none
 |x::l,i=>if gL s q x.1=true then some (i,aU x.1 x.2) else mr s q l (i+1)
def pM:∀{l:List (ϥ×Θ)}{i:Nat},(∀x∈l,gL s q x.1=false)->mr s q l i=none
 |[],_,_=>rfl
 |x::l,i,h=>by rw[mr,if_neg (by simp[h x ς])];exact pM λy a=>h y (by simp[a])
def ni:∀{l:List (ϥ×Θ)}{i:Nat}{x:ϥ×Θ},x∈l->gL s q x.1=true->l.Pairwise (λx y=>gL x.1.a x.1.seq y.1=false)->∃j,l[j]?=some x/\mr s q l i=some (i+j,aU x.1 x.2)
 |[],_,x,h,_,_=>by cases h
 |y::l,i,x,h,b,c=>by
   rw[K9]at c;cases a:gL s q y.1 with
   |true=>
    have e:y=x:=by rcases yF.1 h with rfl|h;rfl;have:=c.1 x h;rw[cu]at b a;simp[gL,b.1,b.2,a.1,a.2]at this
    subst e;exact⟨0,rfl,by rw[mr,if_pos a];rfl⟩
   |false=>
    rcases yF.1 h with rfl|h;rw[b]at a;cases a;obtain⟨j,f,d⟩:=ni h b c.2;refine⟨j+1,f,?_⟩;rw[mr,if_neg (by simp[a]),d,show i+1+j=i+(j+1) by lia]
def Ag(w:Δ)(s q:Int):∀(b:List MapEntry)(l:List (ϥ×Θ))(i:Nat),b.map (·.key)=l.map (λx=>bQ x.1.a x.1.seq)->b.map (·.val)=l.map (λx=>aU x.1 x.2)->
 (Instr.findAsking 186 (bQ s q) b i).run prog w=.ok (mr s q l i) w
 |[],l,i,a,_=>by
   cases l with
   |nil=>rfl
   |cons x l=>simp at a
 |e::b,[],i,a,_=>by simp at a
 |e::b,x::l,i,a,c=>by
   simp at a c;have g:(s==x.1.a&&q==x.1.seq)=gL s q x.1:=by unfold gL;rw[BEq.comm,BEq.comm (a:=q)]
   rw[Instr.findAsking,a.1,c.1,Sem.run_bind,(En w s q x.1.a x.1.seq),g,mr];simp only[Result.andThen];cases h:gL s q x.1;rw[if_neg Bool.false_ne_true,if_neg Bool.false_ne_true];exact(Ag w s q b l (i+1) a.2 c.2);rw[if_pos rfl,if_pos rfl];rfl
def Ah(w:Δ)(s q:Int)(h:dX es clk l):(Instr.findKey 186 (bQ s q) es.toList).run prog w=.ok (mr s q l 0) w:=by
 rw[run_findKey_eq w GL,Ag w s q _ l 0 h.key h.val]
def my(w:Δ)(s q:Int)(e:w.heap[mb]?=some (.map es clk))(h:dX es clk l)(f:∀x∈l,gL s q x.1=false)(c:Bool):(Instr.lookup 156 (.map (some mb)) (bQ s q) c).run prog w=.ok (if c then .tuple #[.agg #[J 0,J 0,sN,.string ⟨#[]⟩],.bool false] else .agg #[J 0,J 0,sN,.string ⟨#[]⟩]) w:=by
 have a:=Ah w s q h;rw[pM f]at a;have b:=λd=>mi w d s q;generalize bQ s q=g at a b|-;rw[Instr.lookup];simp only[Sem.run_bind,run_underlying underlying156,MapKept.run_getObj_map e,Result.andThen,Sem.run_pure,b,a,zeroValue179]
def mz(w:Δ)(s q:Int)(i:w.heap[mb]?=some (.map es clk))(h:dX es clk l)(f:l.Pairwise λx y=>gL x.1.a x.1.seq y.1=false)(d:x∈l)(k:gL s q x.1=true)(c:Bool):(Instr.lookup 156 (.map (some mb)) (bQ s q) c).run prog w=.ok (if c then .tuple #[aU x.1 x.2,.bool true] else aU x.1 x.2) w:=by
 have a:=Ah w s q h;obtain⟨j,-,e⟩:=ni d k f;rw[e]at a;have b:=λg=>mi w g s q;generalize bQ s q=n at a b|-;generalize aU x.1 x.2=m at a|-;rw[Instr.lookup];simp only[Sem.run_bind,run_underlying underlying156,MapKept.run_getObj_map i,Result.andThen,Sem.run_pure,b,a]
def Au(w:Δ)(s q:Int)(v:Θ)(b:w.heap[mb]?=some (.map es clk))(h:dX es clk l)(e:∀x∈l,gL s q x.1=false):(Instr.mapUpdate 156 (.map (some mb)) (bQ s q) v).run prog w=.ok () (setBlock w mb (.map (es.push {key:=bQ s q,val:=v,born:=clk}) (clk+1))):=by
 have a:=Ah w s q h;rw[pM e]at a;have c:=λd=>mi w d s q;generalize bQ s q=f at a c|-;rw[Instr.mapUpdate];simp only[Sem.run_bind,run_underlying underlying156,MapKept.run_getObj_map b,Result.andThen,c,a,MapKept.run_setObj_map _ b];rfl
def F7(w:Δ)(s q:Int)(d:w.heap[mb]?=some (.map es clk))(h:dX es clk l)(i:l.Pairwise λx y=>gL x.1.a x.1.seq y.1=false)(e:x∈l)(m:gL s q x.1=true)(f:ϟ):∃j,l[j]?=some x/\(Builtin.delete_ #[156,186] f #[.map (some mb),bQ s q]).run prog w=.ok ϳ (setBlock w mb (.map (es.eraseIdxIfInBounds j) clk)):=by
 have a:=Ah w s q h;obtain⟨j,b,g⟩:=ni e m i;rw[g]at a;refine⟨j,b,?_⟩;have c:=λk=>mi w k s q;generalize bQ s q=n at a c|-;rw[Builtin.delete_];simp only[Sem.run_bind,run_underlying underlying156,MapKept.run_getObj_map d,Result.andThen,Sem.run_pure,c,a,MapKept.run_setObj_map _ d,ya7,AH,List.getElem?_cons_succ,yS];rfl
def dX.put(h:dX es clk l)(m:ϥ)(d:Θ):dX (es.push {key:=bQ m.a m.seq,val:=aU m d,born:=clk}) (clk+1) (l++[(m,d)]):=by
 refine⟨by simp[h.key],by simp[h.val],?_,λe c=>?_⟩
 .rw[Array.toList_push,y8,GZ];refine⟨h.born,ς,?_⟩;intro a g b f;obtain⟨e,c,rfl⟩:=yW.1 g;simp at f;have:=h.b e c;lia
 simp only[Array.toList_push,yz,yu]at c;rcases c with c|rfl;exact Nat.lt_succ_of_lt (h.b e c);exact LO _
def dX.a(h:dX es clk l):es.size=l.length:=by have:=congrArg List.length h.key;simpa using this
variable {kn:List (Υ)}{w w':Δ}{n kb:Nat}{rbs:Ϙ}
structure Hd where
 a:Nat
 n:Nat
 m:Nat
 i:Bool
 out:Bool
 h:Bool
 d:Int
 b:Int
 g:Int
 f:Int
 o:Int
 p:Int
 k:Θ
 e:Θ
 j:Θ
def Hd.c(h:Hd)(kv mv ev sv:Θ):ϡ:=#[J h.a,J h.n,J h.m,.bool h.i,.bool h.out,.bool h.h,J h.d,J h.b,J h.g,J h.f,J h.o,J h.p,h.k,h.e,kv,mv,h.j,ev,sv]
structure cO(w:Δ)(n kb:Nat)(rbs:Ϙ)(kn:List (Υ)):Prop where
 f:rbs.length=n
 a:kn.length=n
 d:rbs.Nodup
 c:af w kb 69 (rbs.map λr=>Value.slice (some ⟨r,0,none⟩) n n).toArray
 b:∀(q r:Nat)(l:Υ),rbs[q]?=some r->kn[q]?=some l->l.length=n/\af w r 3 (ints l).toArray
def cO.e(h:cO w n kb rbs kn)(d:w'.heap[kb]?=w.heap[kb]?)(c:∀r∈rbs,w'.heap[r]?=w.heap[r]?):cO w' n kb rbs kn:=
 {h with c:=d.trans h.c,b:=λq r l a b=>⟨(h.b q r l a b).1,(c r (yy a)).trans (h.b q r l a b).2⟩}
def cO.h(h:cO w n kb rbs kn):kb<w/\∀r∈rbs,r<w:=by
 refine⟨h.c.f,λr b=>?_⟩;obtain⟨q,a,rfl⟩:=y4 b;have:q<kn.length:=by rwa [h.a,<-h.f]
 exact(h.b q _ _ (yh a) (yh this)).2.f
def cO.g(h:cO w n kb rbs kn)(a:Ϟ w w'):cO w' n kb rbs kn:=
 h.e (a.block kb h.h.1) λr b=>a.block r (h.h.2 r b)
def jc(set:Int)(q:Nat):Bool:=decide (set/2^q%2=1)
def dz(members:Int)(kn:List (Υ))(s:Nat)(q:Int):Bool:=(List.range kn.length).all λi=>!(jc members i&&decide ((kn.getD i []).getD s 0<q))
theorem EC(n:Int):bits .and .i64 n 1=n%2:=by
 have a:(BitVec.ofInt 64 1).toNat=2^1-1:=θ;have b:(BitVec.ofInt 64 n&&&BitVec.ofInt 64 1).toNat=(n%((2^64:Nat):Int)).toNat%2^1:=by rw[BitVec.toNat_and,BitVec.toNat_ofInt,a,Nat.and_two_pow_sub_one_eq_mod]
 show IntKind.i64.wrap ((BitVec.ofInt 64 n&&&BitVec.ofInt 64 1).toNat:Nat)=n%2;rw[b,LX];lia
def gE(a:Int)(q:Nat)(w:Δ)(f:q<=63):ϖ 173 #[J a,J q] w λe d=>ϱ e (.bool (jc a q))/\d=w:=by have c:0<=q:=ω;have b:=EC;go_enter func173,ntmps173;go_wp2;go_ret;exact⟨aB (by unfold jc;rw[Bool.eq_iff_iff];simp),rfl⟩
def IP(b i:Nat)(h:Hd)(t k l:Θ)(a:Ϙ)(s:List (Υ))(w:Δ)(f:af w b 159 (h.c (sT i h.n h.n) t k l))(g:cO w h.n i a s)(r:Nat)(c:a[h.a]?=some r):ϖ 119 #[pT b 0] w λe q=>ϱ e (sT r h.n h.n)/\∃m,q=w.drewN m:=by
 have v:h.a<h.n:=g.f▸(ym.1 c).1;have p:=f.z 0;have d:=f.z 14;have u:ε w i h.a (sT r h.n h.n):=g.c.a _ _ (by simp[c]);simp only[Hd.c,yf,yd,ye]at p d;have o:0<=(h.a:Int):=Int.natCast_nonneg _;have j:h.a<h.n:=ω;go_enter func119,ntmps119;go_wp2;go_quiet (fail);go_wp2;go_ret;exact⟨rfl,_,rfl⟩
def jR(m:ϥ)(b:Θ)(w:Δ):ϖ 139 #[aU m b] w λe a=>ϱ e (bQ m.a m.seq)/\Ϟ w a:=by unfold aU bQ;go_enter func139,ntmps139;go_wp2;exact bodyPost_ret (by simp[results,results139,go_sem]) rfl ⟨rfl,(Ϡ.alloc Ϫ _).alloc ς _⟩
def cO.j(h:cO w n kb rbs kn){k:Nat}(c:k<n):∃r,rbs[k]?=some r/\ε w kb k (sT r n n)/\∀s,s<n->ε w r s (J ((kn.getD k []).getD s 0)):=by
 have a:k<rbs.length:=by rwa [h.f]
 have b:k<kn.length:=by rwa [h.a]
 let ⟨g,e⟩:=h.b k rbs[k] kn[k] (yh a) (yh b)
 refine⟨rbs[k],yh a,h.c.a _ _ (by simp[a]),λs f=>e.a s _ ?_⟩;simp[ints,List.getD,List.getElem?_eq_getElem b,List.getElem?_eq_getElem (by rwa [g]:s<kn[k].length)]
def nV{a:Int}{s:Nat}{q:Int}:dz a kn s q=true↔∀i,i<kn.length->(jc a i&&decide ((kn.getD i []).getD s 0<q))=false:=by unfold dz;rw[y5];constructor;intro h i b;have:=h i (ϰ b);cases c:(jc a i&&decide ((kn.getD i []).getD s 0<q));rfl;rw[c]at this;cases this;intro h i b;rw[h i (ϰ b)];rfl
theorem kx(b z:Nat)(h:Hd)(V R S:Θ)(y:Ϙ)(g:List (Υ))(w:Δ)(t:af w b 159 (h.c (sT z h.n h.n) V R S))(v:cO w h.n z y g)(hn:h.n<=6)(s:Nat)(Q:s<h.n)(q:Int):ϖ 186 #[pT b 0,bQ s q] w λe d=>ϱ e (.bool (dz h.b g s q))/\Ϟ w d:=by
 have I:Hid (∀d,Ϟ w d->ε d b 7 (J h.b)/\ε d b 14 (sT z h.n h.n)):=λd l=>⟨(t.c l t.f).a 7 _ rfl,(t.c l t.f).a 14 _ rfl⟩;have W:Hid (∀d,Ϟ w d->cO d h.n z y g):=λd l=>v.g l;have L:=v.a;have T:=v.f;unfold bQ
 let ⟨O,D⟩:=I (w.alloc (.cells #[J s,J q] 186)) (Ϡ.alloc Ϫ _)
 go_enter func186,ntmps186;go_wp21;go_loopw [12] (λi wr=>∃k:Nat,k<=h.n/\i=J k/\(∀j,j<k->(jc _ j&&decide ((g.getD j []).getD s 0<q))=false)/\Below (w.heap.size+1) _ wr) λi _=>h.n-(intOf i).toNat
 case atStart=>exact⟨0,ω,rfl,ω,yi _ _⟩
 case round=>
  obtain⟨k,v,rfl,a,c⟩:=hrel;have l:=(Ϡ.alloc Ϫ _).trans (c.mono ω)
  let ⟨O,D⟩:=I wr l
  have G:=W wr l;have f:=(af.d w _ rfl 186 _).c c ω;have Z:=f.z 0;have d1:=f.z 1;by_cases A:k<h.n
  .let ⟨r,Y,ck,o⟩:=G.j A
   have U:=o s Q;have H:k<h.n:=ω;have N:0<=s:=ω;have X:s<h.n:=ω;clear o G f;have u:Hid (∀{x:Bool},(jc h.b k&&decide ((g.getD k []).getD s 0<q))=x->x=false->∀j,j<k+1->(jc h.b j&&decide ((g.getD j []).getD s 0<q))=false):=λ{x}m P j E=>by rcases Kq.1 E with E|rfl;exact a j E;rw[m,P]
   cases p:jc _ k
   .rw[p]at u;go_wp21;go_quiet ((go_at_call 173;exact Calls.quiet_of_same ((gE _ _ _ ω).mono λe d h=>by rwa [p]at h)));go_wp21;go_roundw
    case rel=>exact⟨k+1,ω,by go_num,u rfl rfl,below_drewN c _⟩
    case measure=>simp[intOf];lia
   rw[p]at u;have K:Hid ((g.getD k []).getD s 0<q->false=dz h.b g s q):=λm=>by cases F:dz h.b g s q;rfl;have:=nV.1 F k ω;rw[p,decide_eq_true m]at this;cases this
   generalize (g.getD k []).getD s 0=x at u K U;by_cases m:x<q
   .have hxd:decide (x<q)=true:=decide_eq_true m;go_wp21;go_quiet ((go_at_call 173;exact Calls.quiet_of_same ((gE _ _ _ ω).mono λe d h=>by rwa [p]at h)));go_wp21;go_ret;exact⟨aB (K m),below_drewN l _⟩
   have hxd:decide (x<q)=false:=decide_eq_false m;go_wp21;go_quiet ((go_at_call 173;exact Calls.quiet_of_same ((gE _ _ _ ω).mono λe d h=>by rwa [p]at h)));go_wp21;go_roundw
   case rel=>exact⟨k+1,ω,by go_num,u rfl (by simp[m]),below_drewN c _⟩
   case measure=>simp[intOf];lia
  have m:k=h.n:=ω;have M:¬(k:Int)<(h.n:Int):=ω;go_wp21;go_ret;exact⟨aB (nV.2 λi hi=>a i ω).symm,l⟩
variable {r:Nat}{seen:Array Nat}
structure cm(w:Δ)(mb r:Nat)(es:Array MapEntry)(clk:Nat)(seen:Array Nat):Prop where
 map:w.heap[mb]?=some (.map es clk)
 d:w.heap[r]?=some (.mapIter (some mb) clk seen clk)
 f:∀e∈es.toList,e.born<clk
 born:(es.toList.map (·.born)).Nodup
def cm.c{w w':Δ}(h:cm w mb r es clk seen)(a:Ϟ w w'):cm w' mb r es clk seen:=
 ⟨(a.block mb (yk.1 h.map).1).trans h.map,(a.block r (yk.1 h.d).1).trans h.d,h.f,h.born⟩
def eN(w:Δ)(mb r:Nat):Nat:=
 match w.heap[mb]?,w.heap[r]? with
 |some (.map es _),some (.mapIter _ _ seen _)=>(leftOf es seen).size
 |_,_=>0
def cm.b{w:Δ}(h:cm w mb r es clk seen):eN w mb r=(leftOf es seen).size:=by unfold Y.eN;rw[h.map,h.d]
def iI{e:MapEntry}(a:e∈es.toList)(b:seen.contains e.born=false):(leftOf es (seen.push e.born)).size<(leftOf es seen).size:=left_shrinks es seen e (by unfold leftOf;rw[Array.toList_filter,yM];exact⟨a,by rw[b];rfl⟩)
section
variable {P:ϛ}(w:Δ){ops:Array Oper}{rest:List Oper}{o:Oper}{a:Act}{Q:Exit->Act->Ξ}
def fB(z:o.guard=none)(x:Operand)(s:o.op=Op.next x false)(d r:Nat)(p:a.eval x=pT r 0)(h:cm w d r es clk seen)(j:(leftOf es seen).size=0->wpList P ops Q rest (a.put o.dst (.tuple #[.bool false])) w)(g:∀(e:MapEntry)(k:Δ),e∈es.toList->seen.contains e.born=false->cm k d r es clk (seen.push e.born)->w.grownBy k (some r)->k.heap.size=w.heap.size->
  (Instr.entry (pT r 0)).run P k=.ok (.tuple #[e.key,e.val]) k->wpList P ops Q rest (a.put o.dst (.tuple #[.bool true,e.key,e.val])) k):wpList P ops Q (o::rest) a w:=by
 refine wpList_plain z λB l=>?_;unfold Oper.wp;rcases run_next_at (P:=P) w o.type r d clk clk seen es clk h.d h.map h.f Ϫ with ⟨y,c⟩|⟨e,q,f,b,c⟩;simp[execOp,s,p,c,Result.andThen];exact l _ _ (j y);simp[execOp,s,p,c,Result.andThen];unfold leftOf at q;rw[Array.toList_filter,yM]at q;have u:d≠r:=by rintro rfl;have:=h.map.symm.trans h.d;cases this
 have t:=(yk.1 (by rcases b with rfl|rfl<;>exact h.d:f.heap[r]?=some (.mapIter (some d) clk seen clk))).1;have v:cm (setBlock f r (.mapIter (some d) clk (seen.push e.born) clk)) d r es clk (seen.push e.born):=by
  refine⟨?_,?_,h.f,h.born⟩
  .show (f.heap.setIfInBounds r _)[d]?=_;rw[yP λe=>u e.symm];rcases b with rfl|rfl<;>exact h.map
  show (f.heap.setIfInBounds r _)[r]?=_;rw[yR t]
 refine l _ _ (g e _ q.1 (ϰ q.2) v ?_ ?_ (run_entry_at _ r d clk seen es clk e v.d v.map q.1 h.born))
 .refine⟨?_,?_,?_,?_,λi A n=>?_⟩
  .rcases b with rfl|rfl<;>rfl
  .rcases b with rfl|rfl<;>rfl
  .rcases b with rfl|rfl<;>rfl
  .show w.heap.size<=(f.heap.setIfInBounds r _).size;rcases b with rfl|rfl<;>simp
  show (f.heap.setIfInBounds r _)[i]?=_;rw[yP λe=>n (by rw[e])];rcases b with rfl|rfl<;>rfl
 show (f.heap.setIfInBounds r _).size=_;rcases b with rfl|rfl<;>simp
def eO(i:o.guard=none)(m:Operand)(t k e:ϟ)(h:o.op=Op.range t m)(l:P.underlying t=some (.map k e))(n:a.eval m=.map (some mb))(g:w.heap[mb]?=some (.map es clk))(d:∀e∈es.toList,e.born<clk)(b:(es.toList.map (·.born)).Nodup)(j:cm (w.alloc (.mapIter (some mb) clk #[] clk)) mb w.heap.size es clk #[]->wpList P ops Q rest (a.put o.dst (pT w 0)) (w.alloc (.mapIter (some mb) clk #[] clk))):wpList P ops Q (o::rest) a w:=by
 refine wpList_plain i λp f=>?_;unfold Oper.wp;have c:(Instr.range t (.map (some mb))).run P w=.ok (pT w 0) (w.alloc (.mapIter (some mb) clk #[] clk)):=by simp only[Instr.range,Sem.run_bind,run_underlying l,Result.andThen,MapKept.run_getObj_map g];rfl
 simp[execOp,h,n,c,Result.andThen];exact f _ _ (j ⟨by rwa [yQ _ _ _ (yk.1 g).1],heap_alloc_new w _,d,b⟩)
end
section
abbrev aL:=List (ϥ×Θ)
variable {l lr:aL}{es:Array MapEntry}{clk i j mb:Nat}{seen:Array Nat}{e:MapEntry}{pd:Int->Int->Bool}{x:ϥ×Θ}{w:Δ}
def cV(l:aL):Prop:=l.Pairwise λx y=>gL x.1.a x.1.seq y.1=false
def cV.b(h:cV l)(hi:l[i]?=some x)(hj:l[j]?=some x):i=j:=by
 let ⟨h1,e1⟩:=ym.1 hi
 let ⟨h2,e2⟩:=ym.1 hj
 rcases Ks i j with hlt|rfl|hlt;have:=Lb.1 h i j h1 h2 hlt;rw[e1,e2]at this;simp[gL]at this;rfl;have:=Lb.1 h j i h2 h1 hlt;rw[e1,e2]at this;simp[gL]at this
def iK{M K:Type}(f:M->K):∀(l:List M)(i:Nat),(l.eraseIdx i).map f=(l.map f).eraseIdx i
 |[],_=>rfl
 |_::_,0=>rfl
 |x::l,i+1=>by simp[List.eraseIdx,iK f l i]
def rL{es:List MapEntry}(h:(es.map (·.born)).Nodup)(hi:i<es.length)(hj:j<es.length)(e:es[i].born=es[j].born):i=j:=by have hp:=Lb.1 h;rcases Ks i j with hlt|rfl|hlt;exact absurd (by rwa [Kw,Kw]) (hp i j (ϰ hi) (ϰ hj) hlt);rfl;exact absurd (by rw[Kw,Kw];exact e.symm) (hp j i (ϰ hj) (ϰ hi) hlt)
def dX.d(h:dX es clk l)(j:Nat):dX (es.eraseIdxIfInBounds j) clk (l.eraseIdx j):=by have e:(es.eraseIdxIfInBounds j).toList=es.toList.eraseIdx j:=ς;refine⟨by rw[e,iK,h.key,iK],by rw[e,iK,h.val,iK],?_,λx hx=>h.b x ?_⟩;rw[e];exact h.born.sublist ((I0 _ _).map _);rw[e]at hx;exact(I0 _ _).subset hx
def dX.at(h:dX es clk l)(he:es.toList[i]?=some e):∃x,l[i]?=some x/\e.key=bQ x.1.a x.1.seq/\e.val=aU x.1 x.2:=by have hk:=congrArg (λz=>z[i]?) h.key;have hv:=congrArg (λz=>z[i]?) h.val;simp only[yZ,he,yp]at hk hv;rcases hx:l[i]? with _|x;rw[hx]at hk;cases hk;rw[hx]at hk hv;simp at hk hv;exact⟨x,rfl,hk,hv⟩
def oh:Θ->Int×Int
 |.agg cs=>(intOf (cs.getD 0 (.bool false)),intOf (cs.getD 1 (.bool false)))
 |_=>(0,0)
def rW(s q:Int):oh (bQ s q)=(s,q):=rfl
structure nd(pd:Int->Int->Bool)(l:aL)(es:Array MapEntry)(clk:Nat)(seen:Array Nat)(lr:aL):Prop where
 b:dX es clk lr
 a:cV lr
 d:lr.Sublist l
 c:lr.filter (λx=>!pd x.1.a x.1.seq)=l.filter λx=>!pd x.1.a x.1.seq
 done:∀e∈es.toList,seen.contains e.born=true->pd (oh e.key).1 (oh e.key).2=false
def nd.g(h:nd pd l es clk seen lr)(h0:(leftOf es seen).size=0):dX es clk (l.filter λx=>!pd x.1.a x.1.seq):=by
 have hall:∀e∈es.toList,seen.contains e.born=true:=by
  intro e he;cases hs:seen.contains e.born
  .have:=iI he hs;lia
  rfl
 have:lr.filter (λx=>!pd x.1.a x.1.seq)=lr:=by
  rw[List.filter_eq_self];intro x hx;obtain⟨i,hi,rfl⟩:=y4 hx;have hi':i<es.toList.length:=by have:=h.b.a;simp;lia
  let ⟨y,hy,hk,_⟩:=h.b.at (yh hi')
  rw[yh hi]at hy;cases hy;have:=h.done _ (AF hi') (hall _ (AF hi'));rw[hk,rW]at this;rw[this];rfl
 rw[<-h.c,this];exact h.b
def nd.f(h:nd pd l es clk seen lr)(he:e∈es.toList)(hp:pd (oh e.key).1 (oh e.key).2=false):nd pd l es clk (seen.push e.born) lr:=by refine {h with done:=λx hx hs=>?_};rw[Array.contains_push,Bool.or_eq_true,beq_iff_eq]at hs;rcases hs with hs|hs;exact h.done x hx hs;obtain⟨i,hi,rfl⟩:=y4 hx;obtain⟨j,hj,rfl⟩:=y4 he;have:i=j:=rL h.b.born hi hj hs;subst this;exact hp
def nd.go(h:nd pd l es clk seen lr)(he:es.toList[i]?=some e)(hx:lr[i]?=some x)(hp:pd x.1.a x.1.seq=true):nd pd l (es.eraseIdxIfInBounds i) clk (seen.push e.born) (lr.eraseIdx i):=by
 have et:(es.eraseIdxIfInBounds i).toList=es.toList.eraseIdx i:=ς;refine⟨h.b.d i,h.a.sublist (I0 _ _),(I0 _ _).trans h.d,?_,λy hy hs=>?_⟩
 .rw[<-h.c];obtain⟨hi,rfl⟩:=ym.1 hx;rw[List.eraseIdx_eq_take_drop_succ];conv=>rhs;rw[<-List.take_append_drop i lr,List.drop_eq_getElem_cons hi]
  rw[La,La,List.filter_cons,hp];rfl
 rw[et]at hy;rw[Array.contains_push,Bool.or_eq_true,beq_iff_eq]at hs;obtain⟨hi,rfl⟩:=ym.1 he;rw[List.mem_eraseIdx_iff_getElem?]at hy
 let ⟨j,hne,hy⟩:=hy
 obtain⟨hj,rfl⟩:=ym.1 hy;rcases hs with hs|hs;exact h.done _ (AF hj) hs;exfalso;exact hne (rL h.b.born hj hi hs)
def cm.a{r:Nat}(h:cm w mb r es clk seen)(j:Nat)(hne:r≠mb):cm (setBlock w mb (.map (es.eraseIdxIfInBounds j) clk)) mb r (es.eraseIdxIfInBounds j) clk seen:=by have et:(es.eraseIdxIfInBounds j).toList=es.toList.eraseIdx j:=ς;refine⟨?_,?_,λe he=>h.f e ?_,?_⟩;show (w.heap.setIfInBounds mb _)[mb]?=_;rw[yR (yk.1 h.map).1];show (w.heap.setIfInBounds mb _)[r]?=_;rw[yP λe=>hne e.symm];exact h.d;rw[et]at he;exact(I0 _ _).subset he;rw[et];exact h.born.sublist ((I0 _ _).map _)
def ep{o':Obj}(_h:w.heap[mb]?=some o')(o:Obj):w.grownBy (setBlock w mb o) (some mb):=by refine⟨rfl,rfl,rfl,?_,λk _ hne=>?_⟩;show w<=(w.heap.setIfInBounds mb _).size;simp;show (w.heap.setIfInBounds mb _)[k]?=_;rw[yP λe=>hne (by rw[e])]
def zj(es:Array MapEntry)(seen:Array Nat)(j:Nat):(leftOf (es.eraseIdxIfInBounds j) seen).size<=(leftOf es seen).size:=by
 have key:∀(xs:Array MapEntry),(leftOf xs seen).size=(xs.toList.filter λe=>!seen.contains e.born).length:=λxs=>by unfold leftOf;rw[<-Array.toList_filter,AG]
 rw[key,key];have et:(es.eraseIdxIfInBounds j).toList=es.toList.eraseIdx j:=ς;rw[et];exact((I0 _ _).filter _).length_le
def qI(g:Nat)(cb:ϡ)(eg:∀args w,(callFunc g args).run prog w=.ok (.enter g args) w)(pd:Int->Int->Bool)(mb:Nat)(es:Array MapEntry)(clk:Nat)(l:aL)(w:Δ)(hb:w.heap[mb]?=some (.map es clk))(hM:dX es clk l)(hd:cV l)(hsl:∀x∈l,∃ao n c,x.2=.slice ao n c)(hdel:∀(W:Δ)(x:ϥ×Θ),x∈l->w.grownBy W (some mb)->ϖ g (#[bQ x.1.a x.1.seq,aU x.1 x.2]++cb) W λe w'=>ϱ e (.bool (pd x.1.a x.1.seq))/\Ϟ W w'):ϖ 184 #[.map (some mb),.func (.func g) #[] cb] w λe w'=>ϱ e ϳ/\w.grownBy w' (some mb)/\∃es',w'.heap[mb]?=some (.map es' clk)/\dX es' clk (l.filter λx=>!pd x.1.a x.1.seq):=by
 have hmb:mb<w:=(yk.1 hb).1;go_enter func184,ntmps184;go_wp2_with (at_range;apply eO _ rfl _ 156 186 179 rfl underlying156 rfl hb hM.b hM.born;intro hR0);go_frame;go_loopw [8] (λ_ wr=>∃seen esr lr,cm wr mb w esr clk seen/\nd pd l esr clk seen lr/\w.grownBy wr (some mb)) λ_ wr=>eN wr mb w
 case atStart=>exact⟨#[],es,l,hR0,⟨hM,hd,List.Sublist.refl _,rfl,λe _ h=>by simp at h⟩,⟨rfl,rfl,rfl,ς,λk hk _=>yQ _ _ _ hk⟩⟩
 case round=>
  let ⟨seen,esr,lr,hR,hS,hG⟩:=hrel
  have hms:=hR.b;go_wp2_with (at_next;refine fB _ rfl _ rfl mb w rfl hR ?_ ?_)
  .intro h0;go_wp21;go_end0;exact⟨rfl,hG,esr,hR.map,hS.g (by simp[h0])⟩
  intro e w1 he hse hR1 hG1 hs1 hen;have he':e∈esr.toList:=ϰ he;have hse':seen.contains e.born=false:=ϰ hse;obtain⟨i,hi,rfl⟩:=y4 he'
  let ⟨x,hx,hke,hve⟩:=hS.b.at (yh hi)
  rw[hke,hve]at hen|-;have hxl:=hS.d.subset (yy hx)
  let ⟨m,tv⟩:=x
  obtain⟨ao,tn,tc,rfl⟩:=hsl _ hxl;unfold bQ aU at hen|-;simp only at hen|-;go_wp21;have hBa:Below wr w1 ((w1.alloc (.cells #[J m.a,J m.seq] 186)).alloc (.cells #[J m.a,J m.seq,.slice ao tn tc,.string m.b] 179)):=(Ϡ.alloc ω _).alloc (by simp;lia) _;have hGa:w.grownBy w1 (some mb):=hG.andThen hG1 (λj hj=>by cases hj;exact .inl Ϫ);refine((ah hdel) _ (m,.slice ao tn tc) hxl (hGa.andThen (row':=none) {hBa with block:=λk hk _=>hBa.block k ω} λj hj=>by cases hj)).m ?_;rintro w2 hb2;have hB2:Ϟ w1 w2:=(hBa.mono ω).trans (hb2.mono (by simp;lia));have hR2:=hR1.c hB2;have hG2:=hGa.andThen (row':=none) {hB2 with block:=λk hk _=>hB2.block k hk} (λj hj=>by cases hj);have hbox:af w2 wr 186 #[J m.a,J m.seq]:=((af.d w1 wr hs1 186 _).g _).c hb2 (by simp;lia);have d0:ε w2 wr 0 (J m.a):=hbox.y 0;have d1:ε w2 wr 1 (J m.seq):=hbox.y 1;cases hp:pd m.a m.seq
  .go_wp21
   go_roundw
   case rel=>exact⟨_,esr,lr,hR2,hS.f he' (by rwa [hke,rW]),hG2⟩
   case measure=>rw[hR2.b,hms];exact iI he' hse'
  let ⟨j,hj,hrun⟩:=F7 w2 m.a m.seq hR2.map hS.b hS.a (yy hx) (by simp[gL]) 0
  have hji:=hS.a.b hj hx;subst hji;unfold bQ at hrun;go_wp21;have hR3:=hR2.a j ω;go_roundw
  case rel=>exact⟨_,_,_,hR3,(hS.go (yh hi) hx hp),hG2.andThen (ep hR2.map _) λj hj=>by cases hj;exact .inr rfl⟩
  case measure=>rw[hR3.b,hms];exact Nat.lt_of_le_of_lt (zj esr _ j) (iI he' hse')
end
end
section
open Go.RowKit
open Go.ChangeMaps (setBlock)
variable {n sz g r:Nat}{v:Θ}{xs:Ϣ}
section
def Ev.f(e:Ev):Ϣ:=[J e.b,J e.a,J e.d,J e.seq,J e.c,.string e.e]
def az(l:List Ev):Ϣ:=l.flatMap Ev.f
abbrev bC:=Int×ϝ
def ar(l:List bC):Ϣ:=l.flatMap λp=>[J p.1,.string p.2]
structure eB(w:Δ)(F:ϑ)(e:ϟ)(sz:Nat)(v:Θ)(n:Nat)(xs:Ϣ):Prop where
 d:w.ownsRow 0 e sz v n xs
 c:∀g,v.ownBlock=some g->F g
def eB.k{w:Δ}{F:ϑ}{e:ϟ}(h:eB w F e sz v n xs)(a:v.ownBlock=some g):g<w:=(h.d.lt g a).2
def eB.i{w w':Δ}{F:ϑ}{e:ϟ}(h:eB w F e sz v n xs)(a:∀g,v.ownBlock=some g->w'.heap[g]?=w.heap[g]?):eB w' F e sz v n xs:=⟨aj h.d a,h.c⟩
def eB.m{w:Δ}{F:ϑ}{e:ϟ}(h:eB w F e sz v n xs)(b:v.ownBlock=some g):∃a,w.heap[g]?=some (.cells a e (0,0)):=by rcases h.d.2 with ⟨d,-⟩|⟨i,c,a,rfl,-,f,-⟩;rw[d]at b;cases b;cases b;exact⟨a,f⟩
structure PA(w:Δ)(F:ϑ)(b:Nat)(h:Hd)(kn:List (Υ))(l:aL)(evs:List Ev)(snt:List bC)(kb mb:Nat)(rbs:Ϙ)(es:Array MapEntry)(clk:Nat)(ev sv:Θ):Prop where
 a:af w b 159 (h.c (sT kb h.n h.n) (.map (some mb)) ev sv)
 e:cO w h.n kb rbs kn
 map:w.heap[mb]?=some (.map es clk)
 o:dX es clk l
 i:cV l
 d:∀x∈l,eB w F 3 1 x.2 x.1.c.length (ints x.1.c)/\∀g,x.2.ownBlock=some g->g∉rbs
 c:eB w F 64 6 ev evs.length (az evs)
 f:eB w F 111 2 sv snt.length (ar snt)
 t:F b
 z:F kb
 s:F mb
 fr:∀r∈rbs,F r
variable {w w':Δ}{F:ϑ}{b:Nat}{h:Hd}{kn:List (Υ)}{l:aL}{evs:List Ev}{snt:List bC}{kb mb:Nat}{rbs:Ϙ}{es:Array MapEntry}{clk:Nat}{ev sv:Θ}
def PA.q(p:PA w F b h kn l evs snt kb mb rbs es clk ev sv):mb<w:=(yk.1 p.map).1
def PA.u(p:PA w F b h kn l evs snt kb mb rbs es clk ev sv)(hk:∀x,F x->x<w.heap.size->w'.heap[x]?=w.heap[x]?):PA w' F b h kn l evs snt kb mb rbs es clk ev sv where
 a:=(hk b p.t p.a.f).trans p.a
 e:=p.e.e (hk kb p.z p.e.h.1) λr hr=>hk r (p.fr r hr) (p.e.h.2 r hr)
 map:=(hk mb p.s p.q).trans p.map
 o:=p.o
 i:=p.i
 d:=λx hx=>⟨(p.d x hx).1.i λg hg=>hk g ((p.d x hx).1.c g hg) ((p.d x hx).1.k hg),(p.d x hx).2⟩
 c:=p.c.i λg hg=>hk g (p.c.c g hg) (p.c.k hg)
 f:=p.f.i λg hg=>hk g (p.f.c g hg) (p.f.k hg)
 t:=p.t
 z:=p.z
 s:=p.s
 fr:=p.fr
def PA.j(p:PA w F b h kn l evs snt kb mb rbs es clk ev sv)(c:Ϟ w w'):PA w' F b h kn l evs snt kb mb rbs es clk ev sv:=p.u λx _ a=>c.block x a
def PA.k(p:PA w F b h kn l evs snt kb mb rbs es clk ev sv){F':ϑ}(a:∀x,F x->F' x):PA w F' b h kn l evs snt kb mb rbs es clk ev sv:=
 ⟨p.a,p.e,p.map,p.o,p.i,λx d=>⟨⟨(p.d x d).1.d,λg c=>a g ((p.d x d).1.c g c)⟩,(p.d x d).2⟩,⟨p.c.d,λg c=>a g (p.c.c g c)⟩,⟨p.f.d,λg c=>a g (p.f.c g c)⟩,a b p.t,a kb p.z,a mb p.s,λr e=>a r (p.fr r e)⟩
def cq{w:Δ}{f:Nat}{c:ϡ}{e:ϟ}{i:Nat×Nat}{j:Array MapEntry}{a:Nat}(k:w.heap[g]?=some (.cells c e i))(d:w.heap[f]?=some (.map j a)):g≠f:=by rintro rfl;rw[k]at d;cases d
def PA.nb(p:PA w F b h kn l evs snt kb mb rbs es clk ev sv):b≠mb:=cq p.a p.map
def PA.nk(p:PA w F b h kn l evs snt kb mb rbs es clk ev sv):kb≠mb:=cq p.e.c p.map
def cO.k(k:cO w n kb rbs kn)(d:r∈rbs):∃a,w.heap[r]?=some (.cells a 3 (0,0)):=by
 obtain⟨q,c,rfl⟩:=y4 d;have:q<kn.length:=by rwa [k.a,<-k.f]
 exact⟨_,(k.b q _ _ (yh c) (yh this)).2⟩
def PA.nr(p:PA w F b h kn l evs snt kb mb rbs es clk ev sv)(a:r∈rbs):r≠mb:=by obtain⟨c,d⟩:=p.e.k a;exact cq d p.map
def PA.y(p:PA w F b h kn l evs snt kb mb rbs es clk ev sv)(k:w.grownBy w' (some mb)){f:Array MapEntry}{c:Nat}{j:aL}(C:w'.heap[mb]?=some (.map f c))(o:dX f c j)(s:cV j)(z:∀x∈j,x∉l->eB w' F 3 1 x.2 x.1.c.length (ints x.1.c)/\∀g,x.2.ownBlock=some g->g∉rbs):PA w' F b h kn j evs snt kb mb rbs f c ev sv:=by
 have d:∀x,x<w.heap.size->x≠mb->w'.heap[x]?=w.heap[x]?:=λx q m=>k.block x q (λe=>m (by injection e));have a:∀{e:ϟ}{u:Nat}{v:Θ}{n:Nat}{t:Ϣ},eB w F e u v n t->eB w' F e u v n t:=λr=>r.i λg k=>
  let ⟨B,A⟩:=r.m k
  d g (r.k k) (cq A p.map)
 refine⟨(d b p.a.f p.nb).trans p.a,p.e.e (d kb p.e.h.1 p.nk) λr y=>d r (p.e.h.2 r y) (p.nr y),C,o,s,λx q=>?_,a p.c,a p.f,p.t,p.z,p.s,p.fr⟩;by_cases i:x∈l;exact⟨a (p.d x i).1,(p.d x i).2⟩;exact z x q i
end
variable {w w':Δ}{F:ϑ}{b:Nat}{h:Hd}{kn:List (Υ)}{l:aL}{evs:List Ev}{snt:List bC}{kb mb:Nat}{rbs:Ϙ}{es:Array MapEntry}{clk:Nat}{ev sv:Θ}
def x6(p:Θ)(d:Nat)(m:ϥ)(o:ϣ)(r t:Nat)(w:Δ)(q:ε w d 0 (pT b 0))(g:d<w)(j:af w b 159 (h.c (sT kb h.n h.n) p ev sv))(k:cO w h.n kb rbs kn)(v:h.n<=6)(s:Nat)(A:s<h.n)(c:m.a=s):ϖ 185 #[bQ m.a m.seq,aU m (.slice o r t),pT d 0] w λe x=>ϱ e (.bool (dz h.b kn s m.seq))/\Ϟ w x:=by
 obtain⟨D,f,C,y⟩:=m;simp only at c;subst c;simp only;have a:Hid (Below _ w ((w.alloc (.cells #[J s,J f] 186)).alloc (.cells #[J s,J f,.slice o r t,.string y] 179))):=(Ϡ.alloc Ϫ _).alloc ς _;have u:=ah (j.c a j.f);have z:=ah (k.g a);have B:=(yq (a.block d g)).trans q;clear j k q;unfold bQ aU;go_enter func185,ntmps185;go_wp21;apply (kx b kb h p ev sv rbs kn _ u z v s A f).mono;rintro e E⟨rfl,i⟩;go_wp21;go_ret;exact⟨rfl,a.trans (i.mono (by simp;lia))⟩
def DC(n:Nat)(l:aL):Prop:=∀x∈l,∃s:Nat,s<n/\x.1.a=s
def aM(members:Int)(kn:List (Υ))(m:ϥ):Bool:=!dz members kn m.a.toNat m.seq
def eB.a{w:Δ}{F:ϑ}{e:ϟ}{i:Nat}{v:Θ}{n:Nat}{f:Ϣ}(r:eB w F e i v n f):∃j m c,v=.slice j m c:=by rcases r.d.2 with ⟨a,-⟩|⟨k,d,g,a,-⟩;exact⟨_,_,_,a⟩;exact⟨_,_,_,a⟩
def km(p:PA w F b h kn l evs snt kb mb rbs es clk ev sv)(H:h.n<=6)(M:DC h.n l):ϖ 140 #[pT b 0] w λe D=>ϱ e ϳ/\w.grownBy D (some mb)/\∃i,PA D F b h kn (l.filter λx=>aM h.b kn x.1) evs snt kb mb rbs i clk ev sv:=by
 have a:Below _ w (w.alloc (.cells #[pT b 0] 102)):=Ϡ.alloc Ϫ _;have C:=p.q;have d:=ah ((a.block mb C).trans p.map);have G:=(p.a.c a p.a.f).a 15 _ rfl;have L:=enters_of func185 κ rfl;have I:=ah (qI 185 #[pT w 0] L (λs q=>dz h.b kn s.toNat q) mb es clk l _ d p.o p.i (λx f=>(p.d x f).1.a) (λW x f o=>by
  obtain⟨s,O,m⟩:=M x f;obtain⟨N,P,Q,K⟩:=(p.d x f).1.a;have j:∀x,x<w.heap.size+1->x≠mb->W.heap[x]?=(w.alloc (.cells #[pT b 0] 102)).heap[x]?:=λx f g=>o.block x (ϰ f) (λe=>g (by injection e));have A:w.heap.size<W:=by have:=o.size;simp at this;lia
  have:=x6 (kb:=kb) (rbs:=rbs) (kn:=kn) (h:=h) (ev:=ev) (sv:=sv) (.map (some mb)) w.heap.size x.1 N P Q W ((yq (a:=(aT w 0)) (j w.heap.size ω ω)).trans ((af.d w w.heap.size rfl 102 _).a 0 _ rfl)) A ((j b (ϕ p.a.f) p.nb).trans (p.a.c a p.a.f)) ((p.e.g a).e (j kb (ϕ p.e.h.1) p.nk) λr E=>j r (ϕ (p.e.h.2 r E)) (p.nr E)) H s O m;rw[K];simp only[m,CM]at this|-;exact this))
 clear d;go_enter func140,ntmps140;go_wp2_with (go_at_call 184;apply I.mono;rintro e R⟨rfl,c,i,z,t⟩);go_end0;have o:w.grownBy R (some mb):=⟨c.os.trans a.os,c.tape.trans a.tape,c.output.trans a.output,yr a.size c.size,λk j g=>(c.block k (by simp;lia) g).trans (a.block k j)⟩;exact⟨rfl,o,i,p.y o z t (p.i.sublist List.filter_sublist) λx f u=>absurd (yM.1 f).1 u⟩
variable {x:Nat}{ms:List ϥ}{a:Δ}{F':ϑ}{cs:ϡ}
section
structure cW(F:ϑ)(w w':Δ):Prop where
 os:w'.os=w.os
 tape:w'.tape=w.tape
 output:w'.output=w.output
 size:w.heap.size<=w'
 block:∀k,k<w.heap.size->¬F k->w'.heap[k]?=w.heap[k]?
def aY(F:ϑ)(w:Δ):ϑ:=λx=>F x\/w.heap.size<=x
def aY.c{F:ϑ}{w:Δ}:∀x,F x->aY F w x:=λ_ h=>.inl h
def cW.j(F:ϑ)(w:Δ):cW F w w:=⟨rfl,rfl,rfl,Ϫ,λ_ _ _=>rfl⟩
def cW.c{F:ϑ}{b c:Δ}(h:cW F a b)(k:cW (aY F a) b c):cW F a c:=
 ⟨k.os.trans h.os,k.tape.trans h.tape,k.output.trans h.output,yr h.size k.size,λx d f=>(k.block x (yg d h.size) λe=>e.elim f λe=>by lia).trans (h.block x d f)⟩
def cW.e{F:ϑ}{b:Δ}(h:cW F a b)(d:∀x,x<a.heap.size->F x->F' x):cW F' a b:={h with block:=λx c f=>h.block x c λe=>f (d x c e)}
def cW.d{F:ϑ}{w b:Δ}(h:Ϟ w b):cW F w b:={h with block:=λk c _=>h.block k c}
def cW.f{F:ϑ}{w b:Δ}{g:Option Nat}(h:w.grownBy b g)(d:∀x,g=some x->F x):cW F w b:={h with block:=λk c f=>h.block k c λe=>f (d k e.symm)}
def cW.i{F:ϑ}{w b:Δ}{X:Nat}(h:ej X w b)(c:F X):cW F w b:={h with size:=h.size▸Ϫ,block:=λk _ d=>h.block k λe=>d (e▸c)}
variable {w w':Δ}{F:ϑ}{b:Nat}{h:Hd}{kn:List (Υ)}{l:aL}{evs:List Ev}{snt:List bC}{kb mb:Nat}{rbs:Ϙ}{es:Array MapEntry}{clk:Nat}{ev sv:Θ}
def eZ{w:Δ}{y:Nat}{f:ϡ}{t e:ϟ}(h:w.heap[x]?=some (.cells cs t (0,0)))(d:w.heap[y]?=some (.cells f e (0,0)))(c:t≠e):x≠y:=fU h d c
def eB.o{e:ϟ}(r:eB w F e sz v n xs)(j:v.ownBlock=some g){t:ϟ}(d:w.heap[x]?=some (.cells cs t (0,0)))(c:e≠t):g≠x:=by obtain⟨f,i⟩:=r.m j;exact eZ i d c
def PA.a0(p:PA w F b h kn l evs snt kb mb rbs es clk ev sv){q r:Nat}(y:rbs[q]?=some r){row':Υ}(H:row'.length=h.n)(m:∀x,x<w.heap.size->x≠r->w'.heap[x]?=w.heap[x]?)(L:af w' r 3 (ints row').toArray):PA w' F b h (kn.set q row') l evs snt kb mb rbs es clk ev sv:=by
 have k:=yy y;obtain⟨M,c⟩:=p.e.k k;have d:∀{e:ϟ}{C:Nat}{v:Θ}{n:Nat}{A:Ϣ}(R:eB w F e C v n A),(∀g,v.ownBlock=some g->g≠r)->eB w' F e C v n A:=λR j=>R.i λg f=>m g (R.k f) (j g f);refine⟨(m b p.a.f (eZ p.a c θ)).trans p.a,?_,(m mb p.q (cq c p.map).symm).trans p.map,p.o,p.i,λx u=>⟨d (p.d x u).1 λg j e=>(p.d x u).2 g j (e▸k),(p.d x u).2⟩,d p.c λg j=>p.c.o j c θ,d p.f λg j=>p.f.o j c θ,p.t,p.z,p.s,p.fr⟩;have K:=p.e;refine⟨K.f,ϰ K.a,K.d,(m kb K.h.1 (eZ K.c c θ)).trans K.c,λB s E f i=>?_⟩;by_cases e:B=q;subst e;rw[y]at f;injection f with f;subst f;rw[List.getElem?_set]at i;simp only[if_true]at i;split at i;injection i with i;subst i;exact⟨H,L⟩;cases i;rw[LM λz=>e z.symm]at i;have t:s≠r:=λz=>by subst z;have o:=ym.1 f;have G:=ym.1 y;obtain⟨O,I⟩:=o;obtain⟨N,D⟩:=G;exact e ((List.getElem_inj K.d).1 (I.trans D.symm))
 have o:=K.b B s E f i;exact⟨o.1,(m s (K.h.2 s (yy f)) t).trans o.2⟩
def PA.p(p:PA w F b h kn l evs snt kb mb rbs es clk ev sv){h':Hd}{m o:Θ}{j:List Ev}{i:List bC}(q:h'.n=h.n)(G:af w' b 159 (h'.c (sT kb h.n h.n) (.map (some mb)) m o))(u:∀x,x<w.heap.size->x≠b->(∀d,w.heap[x]?≠some (.cells d 64 (0,0)))->(∀d,w.heap[x]?≠some (.cells d 111 (0,0)))->w'.heap[x]?=w.heap[x]?)(B:eB w' F 64 6 m j.length (az j))(C:eB w' F 111 2 o i.length (ar i)):PA w' F b h' kn l j i kb mb rbs es clk m o:=by
 have f:∀{x:Nat}{s:ϡ}{t:ϟ},w.heap[x]?=some (.cells s t (0,0))->t≠159->t≠64->t≠111->w'.heap[x]?=w.heap[x]?:=λ{x s t}k y E z=>by refine u x (yk.1 k).1 (λe=>?_) (λd c=>?_) λd c=>?_;subst e;exact eZ k p.a y rfl;rw[k]at c;injection c with c;injection c with _ c;exact E c;rw[k]at c;injection c with c;injection c with _ c;exact z c
 have K:=p.e;refine⟨by rwa [q],?_,?_,p.o,p.i,λx k=>⟨(p.d x k).1.i λg D=>?_,(p.d x k).2⟩,B,C,p.t,p.z,p.s,p.fr⟩
 .rw[q];exact K.e (f K.c θ θ θ) λr A=>
   let ⟨d,c⟩:=K.k A
   f c θ θ θ
 .refine(u mb p.q p.nb.symm (λd c=>?_) λd c=>?_).trans p.map<;>(rw[p.map]at c;cases c)
 obtain⟨d,c⟩:=(p.d x k).1.m D;exact f c θ θ θ
def PX(w:Δ)(F:ϑ)(b:Nat)(h:Hd)(kn:List (Υ))(ms:List ϥ)(evs:List Ev)(snt:List bC):Prop:=
 ∃l:aL,l.map Prod.fst=ms/\∃(kb mb:Nat)(rbs:Ϙ)(es:Array MapEntry)(clk:Nat)(ev sv:Θ),PA w F b h kn l evs snt kb mb rbs es clk ev sv
def PA.px(p:PA w F b h kn l evs snt kb mb rbs es clk ev sv):PX w F b h kn (l.map Prod.fst) evs snt:=⟨l,rfl,kb,mb,rbs,es,clk,ev,sv,p⟩
def PX.d(p:PX w F b h kn ms evs snt)(c:∀x,F x->F' x):PX w F' b h kn ms evs snt:=by obtain⟨l,rfl,m,f,e,i,d,j,k,q⟩:=p;exact(q.k c).px
def PX.c(p:PX w F b h kn ms evs snt)(d:∀x,F x->x<w.heap.size->w'.heap[x]?=w.heap[x]?):PX w' F b h kn ms evs snt:=by obtain⟨l,rfl,m,f,e,i,c,j,k,q⟩:=p;exact(q.u d).px
def PX.e(p:PX w F b h kn ms evs snt)(d:Ϟ w w'):PX w' F b h kn ms evs snt:=p.c λx _ c=>d.block x c
end
variable {s q:Nat}
def fy(a row:Υ):Υ:=(List.range a.length).map λs=>max (a.getD s 0) (row.getD s 0)
def qN(a b:Υ):(fy a b).length=a.length:=by simp[fy]
end
section
open Go.RowKit
variable {k:Nat}{a:Υ}
section
def bW(k:Nat)(a row:Υ):Υ:=(List.range a.length).map λs=>if s<k then max (a.getD s 0) (row.getD s 0) else a.getD s 0
def qO(k:Nat)(a b:Υ):(bW k a b).length=a.length:=by simp[bW]
def wj(a b:Υ):bW 0 a b=a:=by refine Lj (by simp[bW]) λi d c=>?_;simp[bW,c]
def wh(a b:Υ):bW a.length a b=fy a b:=by
 refine Lj (by simp[bW,fy]) λi c d=>?_;have:i<a.length:=by simpa[bW]using c
 simp[bW,fy,this]
def zm(b:Υ):(bW k a b).set k (max (a.getD k 0) (b.getD k 0))=bW (k+1) a b:=by
 refine Lj (by simp[bW]) λi g d=>?_;rw[List.getElem_set];have f:i<a.length:=by simpa[bW]using d
 simp only[bW,Kw,List.getElem_range];by_cases e:k=i;subst e;simp;rw[if_neg e];by_cases c:i<k;rw[if_pos c,if_pos ω];rw[if_neg c,if_neg ω]
def Cg{b:Υ}:(bW k a b).getD k 0=a.getD k 0:=by
 by_cases c:k<a.length
 simp[bW,c];simp[bW,c]
def vT(l:Υ)(k:Nat)(x:Int):(ints l).toArray.setIfInBounds k (J x)=(ints (l.set k x)).toArray:=by simp[ints,List.map_set]
def ie{l:Υ}(b:k<l.length):(ints l).toArray[k]?=some (J (l.getD k 0)):=by simp[ints,b]
def ej.e{X:Nat}{w b:Δ}(h:ej X w b):ej X w b.drew:={h with}
def IE(x y:Int):max x y=if x<y then y else x:=by split<;>lia
variable {w w':Δ}{F:ϑ}{b:Nat}{h:Hd}{kn:List (Υ)}{l:aL}{evs:List Ev}{snt:List bC}{kb mb:Nat}{rbs:Ϙ}{es:Array MapEntry}{clk:Nat}{ev sv:Θ}
def PA.m(p:PA w F b h kn l evs snt kb mb rbs es clk ev sv){q:Nat}(c:q<h.n):∃r,rbs[q]?=some r/\af w r 3 (ints (kn.getD q [])).toArray/\(kn.getD q []).length=h.n/\ε w kb q (sT r h.n h.n):=by obtain⟨r,d,f,-⟩:=p.e.j c;have:=p.e.b q r (kn.getD q []) d (by simp[(by rwa [p.e.a]:q<kn.length)]);exact⟨r,d,this.2,this.1,f⟩
def EH(p:PA w F b h kn l evs snt kb mb rbs es clk ev sv)(hn:h.n<=6)(hl:DC h.n l)(q:Nat)(hq:q<h.n)(row:Υ)(g o T:Nat)(hg:g∉rbs)(A:∀j,j<h.n->w.cell? ⟨g,o+j,none⟩=some (J (row.getD j 0))):ϖ 253 #[pT b 0,J q,.slice (some ⟨g,o,none⟩) h.n T] w λe t=>ϱ e ϳ/\cW (λx=>x=mb\/x∈rbs) w t/\∃s,PA t F b h (kn.set q (fy (kn.getD q []) row)) (l.filter λx=>aM h.b (kn.set q (fy (kn.getD q []) row)) x.1) evs snt kb mb rbs s clk ev sv:=by
 obtain⟨r,W,z,E,H⟩:=p.m hq;have G:=yy W;have Q:=eZ p.e.c z θ;have I:=eZ p.a z θ;have v:=p.a.a 14 _ rfl;have HF:Hid (∀k wr,k<=h.n->ej r w wr->af wr r 3 (ints (bW k (kn.getD q []) row)).toArray->ε wr b 14 (sT kb h.n h.n)/\ε wr kb q (sT r h.n h.n)/\(k<h.n->wr.cell? ⟨g,o+k,none⟩=some (J (row.getD k 0))/\ε wr r k (J ((kn.getD q []).getD k 0)))/\wr.frozen? (aT r k)=false):=λk wr S f m=>
  ⟨(yq (a:=(aT b 14)) (f.block b I)).trans v,(yq (a:=(aT kb q)) (f.block kb Q)).trans H,λO=>⟨(yq (a:=⟨g,o+k,none⟩) (f.block g λe=>hg (e▸G))).trans (A k O),m.a k _ (by rw[ie (by rw[qO];lia),Cg])⟩,m.b k⟩
 have HS:Hid (∀k wr,k<h.n->ej r w wr->af wr r 3 (ints (bW k (kn.getD q []) row)).toArray->af (wr.setCell ⟨r,k,none⟩ (J (max ((kn.getD q []).getD k 0) (row.getD k 0)))) r 3 (ints (bW (k+1) (kn.getD q []) row)).toArray):=λk wr S f m=>by have:=m.e k (J (max ((kn.getD q []).getD k 0) (row.getD k 0)));rwa [vT,zm]at this
 have HE:Hid (∀wr,ej r w wr->af wr r 3 (ints (bW h.n (kn.getD q []) row)).toArray->ϖ 140 #[pT b 0] wr λe t=>ϱ e ϳ/\cW (λx=>x=mb\/x∈rbs) w t/\∃s,PA t F b h (kn.set q (fy (kn.getD q []) row)) (l.filter λx=>aM h.b (kn.set q (fy (kn.getD q []) row)) x.1) evs snt kb mb rbs s clk ev sv):=λwr f m=>by rw[show h.n=(kn.getD q []).length from E.symm,wh]at m;have p':=p.a0 (w':=wr) W (row':=fy (kn.getD q []) row) (by rwa [qN]) (λx _ B=>f.block x B) m;apply (km p' hn hl).mono;rintro e w2⟨rfl,hG,s,p2⟩;exact⟨rfl,(cW.i (F:=λx=>x=mb\/x∈rbs) f (.inr G)).c ((cW.f hG λx B=>by injection B with B;subst B;exact .inl (.inl rfl))),s,p2⟩
 have M:Hid (af w r 3 (ints (bW 0 (kn.getD q []) row)).toArray):=by rwa [Hid,wj]
 have a3:0<=q:=ω;have a1:q<h.n:=ω;clear z A v H p hl;go_enter func253,ntmps253;go_wp2_with fail;go_loopw [10] (λi wr=>∃k:Nat,k<=h.n/\i=J k/\ej r w wr/\af wr r 3 (ints (bW k (kn.getD q []) row)).toArray) λi _=>h.n-(intOf i).toNat
 case atStart=>exact⟨0,ω,rfl,ej.d _ _,M⟩
 case round=>
  obtain⟨k,S,rfl,f,m⟩:=hrel;obtain⟨v,ck,D,cf⟩:=HF k wr S f m;by_cases C:k<h.n
  .obtain⟨Y,Z⟩:=D C;have V:(k:Int)<(h.n:Int):=ω;have a2:(0:Int)<=(k:Int):=ω;have U:=HS k wr C f m;have N:=ah f;have u:=ah U;clear U f m D;generalize (kn.getD q []).getD k 0=x at Z u;generalize row.getD k 0=y at Y u;rw[IE]at u;go_wp2_with fail;refine gl.b (λt=>ε t b 14 (sT kb h.n h.n)/\ε t kb q (sT r h.n h.n)/\t.cell? ⟨g,o+k,none⟩=some (J y)/\ε t r k (J x)) 21 rfl ⟨v,ck,Y,Z⟩ λP=>?_;(iterate 21 refine χ ?_);refine te 21 λK X=>?_;go_simp;refine X.out _ _ (λh=>absurd rfl h) λ_=>?_;clear X K;try simp only[pU]
   refine gl.done κ ?_ _;go_wp2_with fail;go_roundw
   case rel=>exact⟨k+1,ω,by go_num,(N.a _ _).e,by first|exact u|(rw[<-IE]at u;exact u.out)⟩
   case measure=>simp[intOf];lia
  have B:k=h.n:=ω;subst B;have a0:¬(h.n:Int)<(h.n:Int):=ω;have hC:=HE wr f m;go_wp2_with fail;apply hC.mono;rintro e w2⟨rfl,hc,L⟩;go_wp2_with fail;go_end0;exact⟨rfl,hc,L⟩
end
open Go.ChangeMaps (setBlock)
variable {w w':Δ}{F:ϑ}{b:Nat}{h:Hd}{kn:List (Υ)}{l:aL}{evs:List Ev}{snt:List bC}{kb mb:Nat}{rbs:Ϙ}{es:Array MapEntry}{clk:Nat}{ev sv:Θ}
def Ey(p:PA w F b h kn l evs snt kb mb rbs es clk ev sv)(m:ϥ)(N:ϣ)(P Q:Nat)(x:ϥ×Θ)(H:x∈l)(s:gL m.a m.seq x.1=true):ϖ 254 #[pT b 0,aU m (.slice N P Q)] w λe a=>ϱ e ϳ/\Ϟ w a:=by
 let ⟨g,f,R,O⟩:=m
 let ⟨d,T⟩:=x
 let ⟨A,v,z,M⟩:=(p.d _ H).1.a
 simp only at M s;subst M;have G:Hid (∀a,Ϟ w a->ε a b 15 (.map (some mb))/\(Instr.lookup 156 (.map (some mb)) (.agg #[J g,J f]) true).run prog a=.ok (.tuple #[.agg #[J d.a,J d.seq,.slice A v z,.string d.b],.bool true]) a):=λa k=>by refine⟨(yq (a:=(aT b 15)) (k.block b p.a.f)).trans (p.a.y 15),?_⟩;have:=mz a g f ((k.block mb p.q).trans p.map) p.o p.i H s true;exact this
 have y:Hid (Ϟ w (w.alloc (.cells #[J g,J f,.slice N P Q,.string O] 179))):=Ϡ.alloc Ϫ _;unfold aU;go_enter func254,ntmps254;go_wp21;apply (jR ⟨g,f,R,O⟩ _ _).m;rintro n r;have j:=ah (y.trans (r.mono ς));unfold bQ;simp only;go_wp21;have i:Hid (∀a,Below (n.alloc (.cells #[J g,J f] 186)) (n.alloc (.cells #[J g,J f] 186)) a->Ϟ w a/\ε a n 0 (J g)/\ε a n 1 (J f)):=λa k=>
  have L:=(af.d n n rfl 186 #[J g,J f]).c k ς
  ⟨(j.alloc j.size _).trans (k.mono (by have:=j.size;simp;lia)),L.y 0,L.y 1⟩
 have o:Hid (Ϟ w (n.alloc (.cells #[J g,J f] 186))):=j.alloc j.size _;generalize I:n.heap.size=B at i|-;generalize E:n.alloc _=D at i o|-;have C:Hid (∀a,Ϟ D a->ε a b 15 (.map (some mb))/\(Instr.lookup 156 (.map (some mb)) (.agg #[J g,J f]) true).run prog a=.ok (.tuple #[.agg #[J d.a,J d.seq,.slice A v z,.string d.b],.bool true]) a/\ε a B 0 (J g)/\ε a B 1 (J f)):=λa k=>⟨(G a (i a k).1).1,(G a (i a k).1).2,(i a k).2⟩;refine wp_region_held_drew (S:=λa=>ε a b 15 (.map (some mb))/\(Instr.lookup 156 (.map (some mb)) (.agg #[J g,J f]) true).run prog a=.ok (.tuple #[.agg #[J d.a,J d.seq,.slice A v z,.string d.b],.bool true]) a/\ε a B 0 (J g)/\ε a B 1 (J f)) rfl (C _ Ϡ.drew) λc=>?_;(iterate 9 refine ψ ?_);refine we 9 λK u=>?_;go_simp;refine u.out _ _ (C _ (Ϡ.drew.alloc Ϫ _)) λc=>?_;refine we 10 λK u=>?_;go_simp;refine u.out _ _ (C _ (Ϡ.alloc Ϫ _).drew) λc=>?_;apply wk 11;refine wpAnyH_done κ ?_ _;have t:Hid (Ϟ w (D.alloc (.cells #[J d.a,J d.seq,.slice A v z,.string d.b] 179)).drew):=(o.alloc o.size _).drew;generalize (D.alloc (.cells #[J d.a,J d.seq,.slice A v z,.string d.b] 179)).drew=S at t|-;go_wp21;refine wp_region_held_drew (S:=λa=>Ϟ w a) rfl t.drew λc=>?_;(iterate 16 refine ψ ?_);refine wpAnyH_done κ ?_ _;go_wp21;(try simp);apply bodyPost_ret (results_none rfl _ _ _) rfl;exact⟨rfl,c⟩
def vQ(p:PA w F b h kn l evs snt kb mb rbs es clk ev sv)(G:h.n<=6)(m:ϥ)(Q:ϣ)(T U:Nat)(s:Nat)(W:s<h.n)(z:m.a=s)(v:∀x∈l,gL m.a m.seq x.1=false)(D:dz h.b kn s m.seq=true):ϖ 254 #[pT b 0,aU m (.slice Q T U)] w λe a=>ϱ e ϳ/\Ϟ w a:=by
 let ⟨X,d,V,R⟩:=m
 simp only at z v D;subst z;have L:Hid (∀a,Ϟ w a->ε a b 15 (.map (some mb))/\(Instr.lookup 156 (.map (some mb)) (.agg #[J s,J d]) true).run prog a=.ok (.tuple #[.agg #[J 0,J 0,sN,.string ⟨#[]⟩],.bool false]) a):=λa g=>by refine⟨(yq (a:=(aT b 15)) (g.block b p.a.f)).trans (p.a.y 15),?_⟩;exact my a s d ((g.block mb p.q).trans p.map) p.o v true
 have C:Hid (Ϟ w (w.alloc (.cells #[J s,J d,.slice Q T U,.string R] 179))):=Ϡ.alloc Ϫ _;have I:Hid (∀a,Ϟ w a->ϖ 186 #[pT b 0,.agg #[J s,J d]] a λe M=>ϱ e (.bool true)/\Ϟ a M):=λa g=>by have S:=p.j g;have:=kx b kb h (.map (some mb)) ev sv rbs kn a S.a S.e G s W d;rwa [D]at this
 unfold aU;go_enter func254,ntmps254;go_wp21;apply (jR ⟨s,d,V,R⟩ _ _).m;rintro k B;have i:=ah (C.trans (B.mono ς));unfold bQ;simp only;go_wp21;have f:Hid (∀a,Below (k.alloc (.cells #[J s,J d] 186)) (k.alloc (.cells #[J s,J d] 186)) a->Ϟ w a/\ε a k 0 (J s)/\ε a k 1 (J d)):=λa g=>
  have G:=(af.d k k rfl 186 #[J s,J d]).c g ς
  ⟨(i.alloc i.size _).trans (g.mono (by have:=i.size;simp;lia)),G.y 0,G.y 1⟩
 have o:Hid (Ϟ w (k.alloc (.cells #[J s,J d] 186))):=i.alloc i.size _;generalize O:k.heap.size=q at f|-;generalize H:k.alloc _=u at f o|-;have E:Hid (∀a,Ϟ u a->ε a b 15 (.map (some mb))/\(Instr.lookup 156 (.map (some mb)) (.agg #[J s,J d]) true).run prog a=.ok (.tuple #[.agg #[J 0,J 0,sN,.string ⟨#[]⟩],.bool false]) a/\ε a q 0 (J s)/\ε a q 1 (J d)):=λa g=>⟨(L a (f a g).1).1,(L a (f a g).1).2,(f a g).2⟩;refine wp_region_held_drew (S:=λa=>ε a b 15 (.map (some mb))/\(Instr.lookup 156 (.map (some mb)) (.agg #[J s,J d]) true).run prog a=.ok (.tuple #[.agg #[J 0,J 0,sN,.string ⟨#[]⟩],.bool false]) a/\ε a q 0 (J s)/\ε a q 1 (J d)) rfl (E _ Ϡ.drew) λc=>?_;(iterate 9 refine ψ ?_);refine we 9 λK r=>?_;go_simp;refine r.out _ _ (E _ (Ϡ.drew.alloc Ϫ _)) λc=>?_;refine we 10 λK r=>?_;go_simp;refine r.out _ _ (E _ (Ϡ.alloc Ϫ _).drew) λc=>?_;apply wk 11;refine wpAnyH_done κ ?_ _;have y:Hid (Ϟ w (u.alloc (.cells #[J 0,J 0,sN,.string ⟨#[]⟩] 179)).drew):=(o.alloc o.size _).drew;have j:Hid (Ϟ u (u.alloc (.cells #[J 0,J 0,sN,.string ⟨#[]⟩] 179)).drew):=(Ϡ.alloc Ϫ _).drew;generalize (u.alloc (.cells #[J 0,J 0,sN,.string ⟨#[]⟩] 179)).drew=P at y j|-;have A:Hid (∀a,Ϟ P a->Ϟ w a/\ε a q 0 (J s)/\ε a q 1 (J d)):=λa g=>⟨y.trans (g.mono y.size),(f a (j.trans (g.mono j.size))).2⟩;go_wp21;refine wp_region_held_drew (S:=λa=>Ϟ w a/\ε a q 0 (J s)/\ε a q 1 (J d)) rfl (A _ Ϡ.drew) λc=>?_;(iterate 4 refine ψ ?_);refine we 4 λK r=>?_;go_simp;apply (I _ c.1).m;rintro Y N;go_wp21;refine r.out _ _ (A _ ((Ϡ.drew).trans (N.mono ς))) λc=>?_;(iterate 11 refine ψ ?_);refine wpAnyH_done κ ?_ _;go_wp21;(try simp);apply bodyPost_ret (results_none rfl _ _ _) rfl;exact⟨rfl,c.1⟩
def jV{w:Δ}{a:Nat}{c:Obj}(h:w.heap[a]?=some c)(o:Obj):(setBlock w a o).heap[a]?=some o:=by show (w.heap.setIfInBounds a _)[a]?=_;rw[yR (yk.1 h).1]
def EA(p:PA w F b h kn l evs snt kb mb rbs es clk ev sv)(hn:h.n<=6)(m:ϥ)(i:ϣ)(j o:Nat)(s:Nat)(hs:s<h.n)(X:m.a=s)(B:∀x∈l,gL m.a m.seq x.1=false)(a4:dz h.b kn s m.seq=false)(V:jc h.b s=true)(ht:eB w F 3 1 (.slice i j o) m.c.length (ints m.c))(a2:∀g,(Value.slice i j o).ownBlock=some g->g∉rbs):ϖ 254 #[pT b 0,aU m (.slice i j o)] w λe a=>ϱ e ϳ/\w.grownBy a (some mb)/\∃b2,PA a F b h kn (l++[(m,.slice i j o)]) evs snt kb mb rbs b2 (clk+1) ev sv:=by
 let ⟨ms,c,mt,q⟩:=m
 simp only at X B a4 ht;subst X;have HL:Hid (∀a,Ϟ w a->ε a b 15 (.map (some mb))/\(Instr.lookup 156 (.map (some mb)) (.agg #[J s,J c]) true).run prog a=.ok (.tuple #[.agg #[J 0,J 0,sN,.string ⟨#[]⟩],.bool false]) a):=λa f=>by refine⟨(yq (a:=(aT b 15)) (f.block b p.a.f)).trans (p.a.y 15),?_⟩;exact my a s c ((f.block mb p.q).trans p.map) p.o B true
 have a3:Hid (Ϟ w (w.alloc (.cells #[J s,J c,.slice i j o,.string q] 179))):=Ϡ.alloc Ϫ _;have U:Hid (∀a,Ϟ w a->ϖ 186 #[pT b 0,.agg #[J s,J c]] a λe a7=>ϱ e (.bool false)/\Ϟ a a7):=λa f=>by have p':=p.j f;have:=kx b kb h (.map (some mb)) ev sv rbs kn a p'.a p'.e hn s hs c;rwa [a4]at this
 have Q:=p.a.y 7;simp only[Hd.c,yf,yd,ye]at Q;have HC:Hid (∀a,Ϟ w a->ε a b 7 (J h.b)/\ε a b 15 (.map (some mb))/\a.cell? (aT w 0)=a.cell? (aT w 0)):=λa f=>⟨(yq (a:=(aT b 7)) (f.block b p.a.f)).trans Q,(HL a f).1,rfl⟩;have HP:Hid (∀a v,Ϟ w a->v=.agg #[J s,J c,.slice i j o,.string q]->(Instr.mapUpdate 156 (.map (some mb)) (.agg #[J s,J c]) v).run prog a=.ok () (setBlock a mb (.map (es.push {key:=.agg #[J s,J c],val:=.agg #[J s,J c,.slice i j o,.string q],born:=clk}) (clk+1)))/\w.grownBy (setBlock a mb (.map (es.push {key:=.agg #[J s,J c],val:=.agg #[J s,J c,.slice i j o,.string q],born:=clk}) (clk+1))) (some mb)/\PA (setBlock a mb (.map (es.push {key:=.agg #[J s,J c],val:=.agg #[J s,J c,.slice i j o,.string q],born:=clk}) (clk+1))) F b h kn (l++[(⟨s,c,mt,q⟩,.slice i j o)]) evs snt kb mb rbs (es.push {key:=.agg #[J s,J c],val:=.agg #[J s,J c,.slice i j o,.string q],born:=clk}) (clk+1) ev sv):=λa v f hv=>by
  subst hv;have P:=(f.block mb p.q).trans p.map;have hg:w.grownBy (setBlock a mb (.map (es.push {key:=.agg #[J s,J c],val:=.agg #[J s,J c,.slice i j o,.string q],born:=clk}) (clk+1))) (some mb):=
   have g2:=ep P (.map (es.push {key:=.agg #[J s,J c],val:=.agg #[J s,J c,.slice i j o,.string q],born:=clk}) (clk+1))
   ⟨g2.os.trans f.os,g2.tape.trans f.tape,g2.output.trans f.output,yr f.size g2.size,λk hk b0=>(g2.block k (yg hk f.size) b0).trans (f.block k hk)⟩
  refine⟨Au a s c _ P p.o B,hg,p.y hg ?_ (p.o.put ⟨s,c,mt,q⟩ (.slice i j o)) ?_ ?_⟩;exact jV P _;refine List.pairwise_append.2 ⟨p.i,ς,λx L y hy=>?_⟩;rw[yu]at hy;subst hy;have:=B x L;rw[<-Kr]at this|-;intro e;rw[cu]at e this;exact this ⟨e.1.symm,e.2.symm⟩;intro x L a9;rcases yz.1 L with L|L;exact absurd L a9;rw[yu]at L;subst L;refine⟨ht.i λg Z=>?_,a2⟩
  let ⟨b6,a0⟩:=ht.m Z
  exact hg.block g (ht.k Z) λe=>cq a0 p.map (by injection e)
 have HX:Hid (∀a,Below (w.heap.size+1) (w.alloc (.cells #[J s,J c,.slice i j o,.string q] 179)) a->ε a w 0 (J s)/\ε a w 1 (J c)/\ε a w 2 (.slice i j o)/\ε a w 3 (.string q)):=λa f=>
  have:=(af.d w _ rfl 179 #[J s,J c,.slice i j o,.string q]).c f ω
  ⟨this.y 0,this.y 1,this.y 2,this.y 3⟩
 have O:=ah (λa=>by have:=gE h.b s a ω;rwa [V]at this)
 unfold aU;go_enter func254,ntmps254;go_wp21;apply (jR ⟨s,c,mt,q⟩ _ _).m;rintro C D;have z:=ah (a3.trans (D.mono ς));have W:Hid (Below (w.heap.size+1) (w.alloc (.cells #[J s,J c,.slice i j o,.string q] 179)) C):=D.mono ς;unfold bQ;simp only;go_wp21;have r:Hid (∀a,Below (C.alloc (.cells #[J s,J c] 186)) (C.alloc (.cells #[J s,J c] 186)) a->Ϟ w a/\ε a C 0 (J s)/\ε a C 1 (J c)):=λa f=>
  have hn:=(af.d C C rfl 186 #[J s,J c]).c f ς
  ⟨(z.alloc z.size _).trans (f.mono (by have:=z.size;simp;lia)),hn.y 0,hn.y 1⟩
 have I:Hid (Ϟ w (C.alloc (.cells #[J s,J c] 186))):=z.alloc z.size _;have E:Hid (Below (w.heap.size+1) (w.alloc (.cells #[J s,J c,.slice i j o,.string q] 179)) (C.alloc (.cells #[J s,J c] 186))):=W.alloc (by have:=D.size;simpa using this) _;generalize b3:C.heap.size=N at r|-;generalize a6:C.alloc (.cells #[J s,J c] 186)=R at r I E|-;have HS:Hid (∀a,Ϟ R a->ε a b 15 (.map (some mb))/\(Instr.lookup 156 (.map (some mb)) (.agg #[J s,J c]) true).run prog a=.ok (.tuple #[.agg #[J 0,J 0,sN,.string ⟨#[]⟩],.bool false]) a/\ε a N 0 (J s)/\ε a N 1 (J c)):=λa f=>⟨(HL a (r a f).1).1,(HL a (r a f).1).2,(r a f).2⟩;refine wp_region_held_drew (S:=λa=>ε a b 15 (.map (some mb))/\(Instr.lookup 156 (.map (some mb)) (.agg #[J s,J c]) true).run prog a=.ok (.tuple #[.agg #[J 0,J 0,sN,.string ⟨#[]⟩],.bool false]) a/\ε a N 0 (J s)/\ε a N 1 (J c)) rfl (HS _ Ϡ.drew) λd=>?_;(iterate 9 refine ψ ?_);refine we 9 λK u=>?_;go_simp;refine u.out _ _ (HS _ (Ϡ.drew.alloc Ϫ _)) λd=>?_;refine we 10 λK u=>?_;go_simp;refine u.out _ _ (HS _ (Ϡ.alloc Ϫ _).drew) λd=>?_;apply wk 11;refine wpAnyH_done κ ?_ _;have G:Hid (Ϟ w (R.alloc (.cells #[J 0,J 0,sN,.string ⟨#[]⟩] 179)).drew):=(I.alloc I.size _).drew;have t:Hid (Ϟ R (R.alloc (.cells #[J 0,J 0,sN,.string ⟨#[]⟩] 179)).drew):=(Ϡ.alloc Ϫ _).drew;generalize (R.alloc (.cells #[J 0,J 0,sN,.string ⟨#[]⟩] 179)).drew=T at G t|-;have S:Hid (Below (w.heap.size+1) (w.alloc (.cells #[J s,J c,.slice i j o,.string q] 179)) T):=E.trans (t.mono (by have:=E.size;simpa using this));have A:Hid (∀a,Ϟ T a->Ϟ w a/\ε a b 7 (J h.b)/\ε a b 15 (.map (some mb))/\ε a N 0 (J s)/\ε a N 1 (J c)/\ε a w 0 (J s)/\ε a w 1 (J c)/\ε a w 2 (.slice i j o)/\ε a w 3 (.string q)):=λa f=>
  have hB:=G.trans (f.mono G.size)
  ⟨hB,(HC a hB).1,(HC a hB).2.1,(r a (t.trans (f.mono t.size))).2.1,(r a (t.trans (f.mono t.size))).2.2,HX a (S.trans (f.mono (by have:=S.size;simpa using this)))⟩
 go_wp21
 refine wp_region_held_drew (S:=λa=>Ϟ w a/\ε a b 7 (J h.b)/\ε a N 0 (J s)/\ε a N 1 (J c)/\ε a w 0 (J s)) rfl (have:=A _ Ϡ.drew;⟨this.1,this.2.1,this.2.2.2.1,this.2.2.2.2.1,this.2.2.2.2.2.1⟩) λd=>?_;(iterate 4 refine ψ ?_);refine we 4 λK u=>?_;go_simp;apply (U _ d.1).m;rintro w5 a1;have H:Hid (Ϟ T w5):=(Ϡ.drew).trans (a1.mono ς);go_wp21;refine u.out _ _ (have:=A _ H;⟨this.1,this.2.1,this.2.2.2.1,this.2.2.2.2.1,this.2.2.2.2.2.1⟩) λd=>?_;(iterate 8 refine ψ ?_);refine we 13 λK u=>?_;go_simp;apply (O _).m;rintro w6 rfl;go_wp21;refine u.out _ _ (have:=A _ H;⟨this.1,this.2.1,this.2.2.2.1,this.2.2.2.2.1,this.2.2.2.2.2.1⟩) λd=>?_;(iterate 2 refine ψ ?_);refine wpAnyH_done κ ?_ _
 let ⟨b1,c7,b4,k0,k1,x0,x1,x2,x3⟩:=A _ H
 have hP:=HP _ _ b1.drew rfl;have hU:Hid (_/\_/\_):=hP
 let ⟨b5,a8⟩:=hP
 go_wp21
 refine gl.b (λa=>a=w6.drew) 6 rfl rfl λd=>?_;(iterate 6 refine χ ?_);refine te 6 λK u=>?_;go_simp;refine u.out _ _ (λh=>absurd rfl h) λ_=>?_;refine gl.done κ ?_ _;go_wp21;go_end0;exact⟨rfl,hU.2.1,_,hU.2.2⟩
variable {w3 w4:Δ}{g cap:Nat}
def tH(l:List Ev)(e:Ev):az (l++[e])=az l++e.f:=by simp[az]
def kQ(l:List bC)(e:bC):ar (l++[e])=ar l++[J e.1,.string e.2]:=by simp[ar]
def PA.a4(p:PA w F b h kn l evs snt kb mb rbs es clk ev sv)(k:Ϟ w w3)(n:w3.grownBy w4 ev.ownBlock){e:Ev}(s:w4.ownsRow 0 64 6 (sT g (evs.length+1) cap) (evs.length+1) (az evs++e.f))(i:ev.ownBlock=some g\/w.heap.size<=g):cW (λx=>x=b\/ev.ownBlock=some x) w (w4.setCell ⟨b,17,none⟩ (sT g (evs.length+1) cap))/\PA (w4.setCell ⟨b,17,none⟩ (sT g (evs.length+1) cap)) (aY F w) b h kn l (evs++[e]) snt kb mb rbs es clk (sT g (evs.length+1) cap) sv:=by
 have f:=p.j k;have j:∀x,x<w3.heap.size->(∀d,w3.heap[x]?≠some _)->w4.heap[x]?=w3.heap[x]?:=λx o E=>n.block x o λt=>
  let ⟨d,q⟩:=f.c.m t.symm
  E d q
 have r:∀d,w3.heap[b]?≠some (.cells d 64 (0,0)):=λd q=>by have:=f.a;unfold af at this;rw[q]at this;injection this with this;injection this with _ this;exact absurd this θ
 have z:af w4 b 159 _:=(j b f.a.f r).trans f.a;have y:=z.e 17 (sT g (evs.length+1) cap);have B:g≠b:=by rcases i with i|i;exact p.c.o i p.a θ;have:=p.a.f;lia
 refine⟨⟨n.os.trans k.os,n.tape.trans k.tape,n.output.trans k.output,ϰ (yr k.size n.size),λx o D=>?_⟩,?_⟩;rw[yT _ _ _ _ λt=>D (.inl t)];refine(n.block x (yg o k.size) λt=>D (.inr t.symm)).trans (k.block x o);refine(f.k aY.c).p rfl y (λx o u A _=>?_) ?_ ?_;rw[yT _ _ _ _ u];exact j x o A
 .rw[yC,tH];refine⟨aj s λm a=>?_,λm a=>?_⟩
  .have:m=g:=by simpa[Value.ownBlock]using a.symm
   subst this;exact yT _ _ _ _ B
  have:m=g:=by simpa[Value.ownBlock]using a.symm
  subst this;rcases i with i|i;exact .inl (p.c.c _ i);exact .inr i
 refine⟨aj f.f.d λm a=>?_,λm a=>.inl (p.f.c m a)⟩;obtain⟨d,q⟩:=f.f.m a;have v:=eZ q f.a θ;rw[yT _ _ _ _ v];refine j m (f.f.k a) λC c=>?_;rw[q]at c;injection c with c;injection c with _ c;exact absurd c θ
def PA.a7(p:PA w F b h kn l evs snt kb mb rbs es clk ev sv)(k:Ϟ w w3)(n:w3.grownBy w4 sv.ownBlock){e:bC}(t:w4.ownsRow 0 111 2 (sT g (snt.length+1) cap) (snt.length+1) (ar snt++[J e.1,.string e.2]))(i:sv.ownBlock=some g\/w.heap.size<=g):cW (λx=>x=b\/sv.ownBlock=some x) w (w4.setCell ⟨b,18,none⟩ (sT g (snt.length+1) cap))/\PA (w4.setCell ⟨b,18,none⟩ (sT g (snt.length+1) cap)) (aY F w) b h kn l evs (snt++[e]) kb mb rbs es clk ev (sT g (snt.length+1) cap):=by
 have f:=p.j k;have j:∀x,x<w3.heap.size->(∀d,w3.heap[x]?≠some _)->w4.heap[x]?=w3.heap[x]?:=λx o E=>n.block x o λu=>
  let ⟨d,q⟩:=f.f.m u.symm
  E d q
 have s:∀d,w3.heap[b]?≠some (.cells d 111 (0,0)):=λd q=>by have:=f.a;unfold af at this;rw[q]at this;injection this with this;injection this with _ this;exact absurd this θ
 have A:af w4 b 159 _:=(j b f.a.f s).trans f.a;have z:=A.e 18 (sT g (snt.length+1) cap);have B:g≠b:=by rcases i with i|i;exact p.f.o i p.a θ;have:=p.a.f;lia
 refine⟨⟨n.os.trans k.os,n.tape.trans k.tape,n.output.trans k.output,ϰ (yr k.size n.size),λx o D=>?_⟩,?_⟩;rw[yT _ _ _ _ λu=>D (.inl u)];refine(n.block x (yg o k.size) λu=>D (.inr u.symm)).trans (k.block x o);refine(f.k aY.c).p rfl z (λx o v _ r=>?_) ?_ ?_;rw[yT _ _ _ _ v];exact j x o r;refine⟨aj f.c.d λm a=>?_,λm a=>.inl (p.c.c m a)⟩;obtain⟨d,q⟩:=f.c.m a;have y:=eZ q f.a θ;rw[yT _ _ _ _ y];refine j m (f.c.k a) λC c=>?_;rw[q]at c;injection c with c;injection c with _ c;exact absurd c θ;rw[yC,kQ];refine⟨aj t λm a=>?_,λm a=>?_⟩
 .have:m=g:=by simpa[Value.ownBlock]using a.symm
  subst this;exact yT _ _ _ _ B
 have:m=g:=by simpa[Value.ownBlock]using a.symm
 subst this;rcases i with i|i;exact .inl (p.f.c _ i);exact .inr i
def mw:(prog.info? 64).map (λi=>(i.zero,i.size,i.bytes))=some (some (.agg #[J 0,J 0,J 0,J 0,J 0,.string ⟨#[]⟩]),6,56):=κ
def iM(p:PA w F b h kn l evs snt kb mb rbs es clk ev sv){r:Nat}(d:rbs[h.a]?=some r):ϖ 119 #[pT b 0] w λe a=>ϱ e (sT r h.n h.n)/\Ϟ w a/\a.heap=w.heap:=(IP b kb h _ ev sv rbs kn w p.a p.e r d).mono λe a c=>by obtain⟨rfl,m,rfl⟩:=c;exact⟨rfl,below_drewN Ϡ m,ς⟩
def pG(p:PA w F b h kn l evs snt kb mb rbs es clk ev sv)(m:ϥ)(M:ϣ)(O P:Nat)(i:Int)(s:Nat)(hs:s<h.n)(a2:m.a=s)(a9:h.a<h.n)(c4:evs.length<=1000000000000):ϖ 138 #[pT b 0,aU m (.slice M O P),J i] w λe d=>ϱ e ϳ/\cW (λx=>x=b\/x∈rbs\/ev.ownBlock=some x) w d/\∃a6,(∀g,a6.ownBlock=some g->ev.ownBlock=some g\/w<=g)/\PA d (aY F w) b h (kn.set h.a ((kn.getD h.a []).set s m.seq)) l (evs++[⟨i,h.d,m.a,m.seq,0,m.b⟩]) snt kb mb rbs es clk a6 sv:=by
 let ⟨ms,f,mt,t⟩:=m
 simp only at a2;subst a2;simp only
 let ⟨r,hr,B,c0,_⟩:=p.m a9
 let ⟨i0,b7,b8,b4,b2⟩:=info_parts mw
 have b0:Hid (af (w.alloc (.cells #[J s,J f,.slice M O P,.string t] 179)) w 179 #[J s,J f,.slice M O P,.string t]):=af.d w w rfl 179 _;have G:Hid (Ϟ w (w.alloc (.cells #[J s,J f,.slice M O P,.string t] 179))):=Ϡ.alloc Ϫ _;have HR:Hid (∀d,Ϟ w d->ϖ 119 #[pT b 0] d λe a4=>ϱ e (sT r h.n h.n)/\Ϟ d a4/\a4.heap=d.heap):=λd o=>iM (p.j o) hr;have a7:Hid (∀d,Ϟ w d->d.frozen? (aT r s)=false/\∃c,ε d r s c):=λd o=>
  have q:=B.c o B.f
  ⟨q.b s,_,q.a s _ (ie ω)⟩
 have a5:Hid (∀d,Ϟ w d->PA (d.setCell ⟨r,s,none⟩ (J f)) F b h (kn.set h.a ((kn.getD h.a []).set s f)) l evs snt kb mb rbs es clk ev sv/\cW (λx=>x=b\/x∈rbs\/ev.ownBlock=some x) w (d.setCell ⟨r,s,none⟩ (J f))):=λd o=>by have q:=(B.c o B.f).e s (J f);rw[vT]at q;refine⟨(p.j o).a0 hr (ϰ c0) (λx _ N=>yT _ _ _ _ N) q,{o with size:=ϰ o.size,block:=λx N hF=>?_}⟩;rw[yT _ _ _ _ λe=>hF (.inr (.inl (by rw[show x=r from e];exact yy hr)))];exact o.block x N
 have c5:0<=s:=ω;have E:s<h.n:=ω;have c3:=B.f;have Y:Hid (∀g,ev.ownBlock=some g->g<w):=λg hg=>p.c.k hg;unfold aU;go_enter func138,ntmps138;go_wp21;have HX:Hid (∀d,Below (w.heap.size+1) (w.alloc (.cells #[J s,J f,.slice M O P,.string t] 179)) d->ε d w 0 (J s)/\ε d w 1 (J f)/\ε d w 3 (.string t)):=λd o=>
  have q:=b0.c o ω
  ⟨q.y 0,q.y 1,q.y 3⟩
 have a0:Hid (Below (w.heap.size+1) (w.alloc (.cells #[J s,J f,.slice M O P,.string t] 179)) (w.alloc (.cells #[J s,J f,.slice M O P,.string t] 179))):=yi _ _;have E:Hid ((w.alloc (.cells #[J s,J f,.slice M O P,.string t] 179))=w.heap.size+1):=by simp[Hid]
 generalize b6:w.alloc _=w1 at G HX a0 E|-;refine gl.b (λd=>Below (w.heap.size+1) w1 d/\d.cell? _=some (J s)/\d.cell? _=some (J f)) 7 rfl (have:=HX _ a0.drew;⟨Ϡ.drew,this.1,this.2.1⟩) λa=>?_;apply tw 0;apply tw 2;apply tw 3;apply tw 4;apply tw 5;refine te 1 λK k=>?_;go_simp;apply (HR _ (G.drew)).m;rintro H⟨a1,c2⟩;have A:Hid (Below (w.heap.size+1) w1 H):=(Ϡ.drew).trans (a1.mono (by simp[E.out]));have D:=ah (G.trans (A.mono ω));go_wp21;refine k.out _ _ (λ_=>have:=HX _ A;⟨A,this.1,this.2.1⟩) λa=>?_;have a:=a θ;apply tw 6
 let ⟨a3,cc,b9⟩:=a7 H D
 refine te 7 λK k=>?_;go_simp;refine k.out _ _ (λh=>absurd rfl h) λ_=>?_;refine gl.done κ ?_ _
 let ⟨p3,S⟩:=a5 H D
 have x3:=HX H A;have y0:(H.setCell ⟨r,s,none⟩ (J f)).cell? (aT w 0)=some (J s):=(World.cell?_setCell_far _ _ _ _ (by show r≠w;lia)).trans x3.1;have y1:(H.setCell ⟨r,s,none⟩ (J f)).cell? (aT w 1)=some (J f):=(World.cell?_setCell_far _ _ _ _ (by show r≠w;lia)).trans x3.2.1;have y3:(H.setCell ⟨r,s,none⟩ (J f)).cell? (aT w 3)=some (.string t):=(World.cell?_setCell_far _ _ _ _ (by show r≠w;lia)).trans x3.2.2;have v:Hid (w.heap.size<(H.setCell ⟨r,s,none⟩ (J f))):=by have:=A.size;have:=E.out;simp[Hid];lia
 generalize (H.setCell ⟨r,s,none⟩ (J f))=z at p3 S y0 y1 y3 v|-;have C:Hid (PA z F b h (kn.set h.a ((kn.getD h.a []).set s f)) l evs snt kb mb rbs es clk ev sv):=p3;have c6:=p3.a.y 6;have U:=p3.a.y 17;simp only[Hd.c,yf,yd,ye]at c6 U;have X:Hid (cW (λx=>x=b\/x∈rbs\/ev.ownBlock=some x) w z):=S;have HS:Hid (∀d,Ϟ z d->ε d b 6 (J h.d)/\ε d b 17 ev/\ε d w 0 (J s)/\ε d w 1 (J f)/\ε d w 3 (.string t)):=λd o=>
  ⟨(o.cell (p:=(aT b 6)) C.a.f).trans c6,(o.cell (p:=(aT b 17)) C.a.f).trans U,(o.cell (p:=(aT w 0)) v).trans y0,(o.cell (p:=(aT w 1)) v).trans y1,(o.cell (p:=(aT w 3)) v).trans y3⟩
 go_wp21
 refine gl.b (λd=>ε d b 6 (J h.d)/\ε d b 17 ev/\ε d w 0 (J s)/\ε d w 1 (J f)/\ε d w 3 (.string t)) 21 rfl (HS _ Ϡ.drew) λa=>?_;(iterate 17 refine χ ?_);refine te 17 λK k=>?_;go_simp;have j:Hid (Ϟ z (z.alloc (.cells #[J i,J h.d,J s,J f,J 0,.string t] 64)).drew):=(Ϡ.alloc Ϫ _).drew;refine k.out _ _ (λ_=>HS _ j) λa=>?_;have HE:Hid (af (z.alloc (.cells #[J i,J h.d,J s,J f,J 0,.string t] 64)).drew z 64 #[J i,J h.d,J s,J f,J 0,.string t]):=(af.d z z rfl 64 _).i;have V:Hid ((z.alloc (.cells #[J i,J h.d,J s,J f,J 0,.string t] 64)).drew=z.heap.size+1):=by simp[Hid]
 generalize (z.alloc (.cells #[J i,J h.d,J s,J f,J 0,.string t] 64)).drew=w4 at j HE V a|-;refine te 18 λK k=>?_;apply step_append_lies w4 rfl (.tmp 17) (.tmp 30) 35 rfl 0 64 i0 _ 6 56 underlying35 b7 b8 b4 b2 rfl θ ev evs.length (az evs) rfl (aQ C.c.d j) (aT z 0) 1 1 (Ev.f ⟨i,h.d,s,f,0,t⟩) rfl rfl (IZ HE) (by intro u hu;simp only[Ev.f,yF,yU,or_false]at hu;rcases hu with rfl|rfl|rfl|rfl|rfl|rfl<;>rfl) ω (by simp[maxLen];lia) ω (oI _) (z.heap.size+1) V;intro g b5 Z Q y R b1;have W:Hid (ε Z b 6 (J h.d)/\ε Z b 17 ev/\ε Z w 0 (J s)/\ε Z w 1 (J f)/\ε Z w 3 (.string t)):=
  have h4:=HS _ j;have a8:b<w4:=yg C.a.f j.size;have T:w.heap.size<w4:=yg v j.size;have nb:some b≠ev.ownBlock:=λe=>C.c.o e.symm C.a θ rfl;have nx:some w.heap.size≠ev.ownBlock:=λe=>ϕ (Y _ e.symm)
  ⟨(y.cell_far ⟨b,6,none⟩ a8 nb).trans h4.1,(y.cell_far ⟨b,17,none⟩ a8 nb).trans h4.2.1,(y.cell_far ⟨w.heap.size,0,none⟩ T nx).trans h4.2.2.1,(y.cell_far ⟨w.heap.size,1,none⟩ T nx).trans h4.2.2.2.1,(y.cell_far ⟨w.heap.size,3,none⟩ T nx).trans h4.2.2.2.2⟩
 have c1:Hid (ev.ownBlock=some g\/w.heap.size<=g):=R.imp id λe=>ϵ j.size X.size;have I:Hid (cW (λx=>x=b\/ev.ownBlock=some x) z (Z.setCell ⟨b,17,none⟩ (sT g (evs.length+1) b5))/\_):=(C.a4 j y (e:=⟨i,h.d,s,f,0,t⟩) Q (R.imp id λe=>by lia));have a3:Z.frozen? (aT b 17)=false:=by rw[y.frozen_far ⟨b,17,none⟩ (yg C.a.f j.size) λe=>C.c.o e.symm C.a θ rfl];exact(C.a.c j C.a.f).b 17
 refine k.out _ _ (λ_=>W) λa=>?_;have a:=a θ;refine te 19 λK k=>?_;go_simp;refine k.out _ _ (λ_=>W) λa=>?_;refine te 20 λK k=>?_;go_simp;refine k.out _ _ (λ_=>W) λa=>?_;have a:=a θ;refine te 21 λK k=>?_;go_simp;refine k.out _ _ (λh=>absurd rfl h) λ_=>?_;refine gl.done κ ?_ _;go_wp21;go_end0;refine⟨rfl,X.c (I.1.e λx _ N=>.inl (N.imp id .inr)),_,λg' b3=>by cases b3;exact c1,I.2.k λx N=>N.elim .inl λN=>.inr ?_⟩;have:=X.size;lia
def lE(u n v:Nat)(m:ϥ)(g:ϣ)(k o:Nat)(s:Nat)(x:Int)(E:s<n)(c:m.a=s)(j:ε w u s (J x)):ϖ 273 #[sT u n v,aU m (.slice g k o)] w λe y=>ϱ e (.bool (decide (m.seq<=x)))/\Ϟ w y:=by
 obtain⟨D,q,B,t⟩:=m;simp only at c;subst c;simp only;have f:=yI w _ j;have a:Hid (Below _ w (w.alloc (.cells #[J s,J q,.slice g k o,.string t] 179))):=Ϡ.alloc Ϫ _;have d:=(a.cell f).trans j;have i:=af.d w _ rfl 179 #[J s,J q,.slice g k o,.string t];have p:=i.a 0 _ rfl;have r:=i.a 1 _ rfl;simp only[yf,yd,ye]at p r;have z:0<=s:=ω;have A:s<n:=ω;clear j i;unfold aU;go_enter func273,ntmps273;go_wp21;generalize w.alloc _=C at a d p r|-;go_quiet (fail);go_wp21;go_ret;exact⟨aB rfl,below_drewN a _⟩
def ey(row time:Υ)(s:Nat):Bool:=(List.range row.length).all λq=>decide (q=s)||decide (time.getD q 0<=row.getD q 0)
def ku{c a:Υ}{s:Nat}:ey c a s=true↔∀q,q<c.length->q≠s->a.getD q 0<=c.getD q 0:=by unfold ey;rw[y5];constructor;intro f q d g;have:=f q (ϰ d);simpa[g]using this;intro f q d;by_cases e:q=s;simp[e];have:=f q (ϰ d) e;rw[decide_eq_true this];simp
def Av(p:PA w F b h kn l evs snt kb mb rbs es clk ev sv)(hn:h.n<=6)(v:h.a<h.n)(m:ϥ)(o A:Nat)(s:Nat)(K:m.a=s)(P:m.c.length=h.n)(S:∀q,q<h.n->ε w o q (J (m.c.getD q 0))):ϖ 304 #[pT b 0,aU m (sT o h.n A)] w λe a=>ϱ e (.bool (ey (kn.getD h.a []) m.c s))/\Ϟ w a:=by
 obtain⟨ms,E,j,M⟩:=m;simp only at K P S;subst K;simp only;obtain⟨r,hr,B,a4,-⟩:=p.m v;have a0:=yI w _ (S h.a v);have HR:Hid (∀a,Ϟ w a->ϖ 119 #[pT b 0] a λe H=>ϱ e (sT r h.n h.n)/\Ϟ a H/\H.heap=a.heap):=λa f=>iM (p.j f) hr;have HC:Hid (∀a,Ϟ w a->∀q,q<h.n->ε a r q (J ((kn.getD h.a []).getD q 0))/\ε a o q (J (j.getD q 0))):=λa f q t=>⟨(B.c f B.f).a q _ (ie ω),(f.cell (p:=(aT o q)) a0).trans (S q t)⟩;have W:=af.d w _ rfl 179 #[J s,J E,sT o h.n A,.string M];have z:Hid (∀a,Below (w.heap.size+1) (w.alloc (.cells #[J s,J E,sT o h.n A,.string M] 179)) a->Ϟ w a/\ε a w 0 (J s)/\ε a w 2 (sT o h.n A)):=λa f=>⟨(Ϡ.alloc Ϫ _).trans (f.mono ω),(W.c f ω).a 0 _ rfl,(W.c f ω).a 2 _ rfl⟩;have L:Hid (Below (w.heap.size+1) (w.alloc (.cells #[J s,J E,sT o h.n A,.string M] 179)) (w.alloc (.cells #[J s,J E,sT o h.n A,.string M] 179))):=yi _ _;have N:Hid ((w.alloc (.cells #[J s,J E,sT o h.n A,.string M] 179)).heap.size=w.heap.size+1):=by simp[Hid]
 have u:Hid (∀k,(k=h.n->(∀q,q<k->q≠s->j.getD q 0<=(kn.getD h.a []).getD q 0)->true=ey (kn.getD h.a []) j s)/\(k<h.n->k≠s->(kn.getD h.a []).getD k 0<j.getD k 0->false=ey (kn.getD h.a []) j s)):=λk=>by refine⟨λhk c=>?_,λhk d a3=>?_⟩;subst hk;exact(ku.2 λq t d=>c q ω d).symm;cases Y:ey (kn.getD h.a []) j s;rfl;exact absurd (ku.1 Y k ω d) ω
 clear p B hr S W;unfold aU;go_enter func304,ntmps304;go_wp2_with fail;generalize w.alloc _=T at z L N|-;apply (HR T (z T L).1).mono;rintro e w2⟨rfl,G,-⟩;have Z:Hid (Below (w.heap.size+1) T w2):=G.mono (by rw[N];lia);clear G;go_wp2_with fail;go_loopw [10] (λi wr=>∃k:Nat,k<=h.n/\i=J k/\(∀q,q<k->q≠s->j.getD q 0<=(kn.getD h.a []).getD q 0)/\Below _ T wr) λi _=>h.n-(intOf i).toNat
 case atStart=>exact⟨0,ω,rfl,λq t=>absurd t ω,Z⟩
 case round=>
  obtain⟨k,hk,rfl,c,g⟩:=hrel;have Q:=ah g;obtain⟨f,x0,x2⟩:=z wr g;have C:=ah f;by_cases D:k<h.n
  .obtain⟨cr,ct⟩:=HC wr f k D;have a1:k<h.n:=ω;have a5:0<=k:=ω;have U:=(u k).2 D;have R:Hid ((k≠s->j.getD k 0<=(kn.getD h.a []).getD k 0)->∀q,q<k+1->q≠s->j.getD q 0<=(kn.getD h.a []).getD q 0):=λhh q t d=>by rcases Kq.1 t with t|rfl;exact c q t d;exact hh d
   have HE:=ah U;clear c U g f;generalize (kn.getD h.a []).getD k 0=x at cr R HE;generalize j.getD k 0=y at ct R HE;by_cases I:k=s
   .have O:k=(s:Int):=ω;subst I;go_wp2_with fail;go_roundw
    case rel=>exact⟨k+1,ω,by go_num,R λhh=>absurd rfl hh,Q⟩
    case measure=>simp[intOf];lia
   have O:¬(k:Int)=(s:Int):=ω;by_cases X:x<y
   .go_wp2_with fail;go_ret;exact⟨aB (HE I X),C⟩
   go_wp2_with fail;go_roundw
   case rel=>exact⟨k+1,ω,by go_num,R (λ_=>by lia),Q⟩
   case measure=>simp[intOf];lia
  have a2:¬(k:Int)<(h.n:Int):=ω;have U:=ah ((u k).1 ω c);go_wp2_with fail;go_ret;exact⟨aB U,C⟩
def ql{w:Δ}{X:Nat}{T:ϟ}{k m n j:Θ}(h:af w X T #[k,m,n,j])(a d c e:Θ):af ((((w.setCell ⟨X,0,none⟩ a).setCell ⟨X,1,none⟩ d).setCell ⟨X,2,none⟩ c).setCell ⟨X,3,none⟩ e) X T #[a,d,c,e]/\ej X w ((((w.setCell ⟨X,0,none⟩ a).setCell ⟨X,1,none⟩ d).setCell ⟨X,2,none⟩ c).setCell ⟨X,3,none⟩ e):=
 have o:=h.e 0 a;have g:=o.e 1 d;have f:=g.e 2 c;have i:=f.e 3 e
 ⟨i,((((ej.d X w).a 0 a).a 1 d).a 2 c).a 3 e⟩
def pC{l:aL}(h:cV l){x y:ϥ×Θ}(c:x∈l)(d:y∈l)(g:x≠y):¬gL x.1.a x.1.seq y.1=true:=by
 intro e;obtain⟨i,m,rfl⟩:=y4 c;obtain⟨j,f,rfl⟩:=y4 d;have n:=Lb.1 h;rcases Ks i j with a|a|a;grind;grind
 have k:=n j i f m a;rw[cu]at e;rw[<-Kr,cu]at k;lia
def jf(p:PA w F b h kn l evs snt kb mb rbs es clk ev sv)(j:0<h.n){x:ϥ×Θ}(f:x∈l)(a:x.1.c.length=h.n):∃d o,x.2=sT d h.n o/\∀q,q<h.n->ε w d q (J (x.1.c.getD q 0)):=by
 have r:=(p.d x f).1.d;rcases r.2 with t|⟨g,c,s,m,-⟩
 .lia
 have k:=r.cells (by rw[m];rfl);refine⟨g,c,ν,λq i=>?_⟩;have:=k q (J (x.1.c.getD q 0)) (by simp[ints,a,i]);have e:(⟨g,0,none⟩:Addr).add q=(aT g q):=by unfold Addr.add;split<;>simp_all
 grind
variable {n j C:Nat}{x:ϥ×Θ}{w'':Δ}{kn':List (Υ)}{l':aL}{evs':List Ev}{es':Array MapEntry}{ev':Θ}
def getD_some{l:Υ}{i:Nat}(h:i<l.length):l[i]?=some (l.getD i 0):=by simp[h]
def wK(row:Υ):Nat:=(row.map λx=>(20-x).toNat).sum
def mj(w:Δ)(b:Nat):Nat:=match w.cell? (aT b 17)with|some (.slice _ n _)=>n|_=>0
def PA.v(p:PA w F b h kn l evs snt kb mb rbs es clk ev sv):mj w b=evs.length:=by have f:=p.a.a 17 _ rfl;unfold Y.mj;rw[f];show (match (some ev)with|some (.slice _ n _)=>n|_=>0)=_;rcases p.c.d.2 with ⟨a,d⟩|⟨g,c,e,a,-⟩;rw[a,d];rw[a]
def Ab(n:Nat)(row:Υ):Prop:=∀q,q<n->0<=row.getD q 0/\row.getD q 0<=20
def cL(l:aL)(f:ϥ->Bool):(l.filter λx=>f x.1).map Prod.fst=(l.map Prod.fst).filter f:=by rw[List.filter_map];rfl
section
def ES(n:Nat)(c:n<=6)(w:Δ):ϖ 306 #[.int .u64 1,.int .u64 n] w λe b=>ϱ e (.tuple #[.int .u64 0,.int .u64 n])/\b=w:=by
 have a:n=0\/n=1\/n=2\/n=3\/n=4\/n=5\/n=6:=ω;rcases a with rfl|rfl|rfl|rfl|rfl|rfl|rfl<;>
 .go_enter func306,ntmps306;go_wp2;go_ret2;exact⟨rfl,rfl⟩
def IG(n:Nat)(b:n<=6)(w:Δ):ϖ 302 #[.int .u64 1,.int .u64 n] w λe a=>ϱ e (.tuple #[.int .u64 0,.int .u64 n])/\a=w:=by go_enter func302,ntmps302;go_wp21;apply (ES n b w).mono;rintro e c⟨rfl,rfl⟩;go_wp21;go_ret2;exact⟨rfl,rfl⟩
def reps20(k n:Nat):Ϣ:=List.replicate k (J 20)++List.replicate (n-k) (J 0)
theorem qV{k n:Nat}(m:Nat):splice (reps20 k n) k (List.replicate m (J 20))=reps20 (k+m) n:=by unfold splice reps20;rw[List.take_left' ς,I2,List.drop_append,I2,show k+m-k=m by lia,Lf ς,List.nil_append,List.drop_replicate,show n-k-m=n-(k+m) by lia,<-I3,List.replicate_append_replicate]
theorem rO(w t:Δ)(B g k n m:Nat)(f:Addr)(a c d:Nat)(s:w.heap[g]?=some (.cells (reps20 k n).toArray 3 (0,0)))(C:k<=n)(A:m=Nat.min a (n-k))(h:∀j,j<m->w.cell? (f.add j)=some (J 20))(z:Below B t w)(q:B<=g):∃p,(Builtin.copy_ #[69,69] 3 #[.slice (some ⟨g,k,none⟩) (n-k) d,.slice (some f) a c]).run prog w=.ok (J m) p/\p.heap[g]?=some (.cells (reps20 (k+m) n).toArray 3 (0,0))/\Below B t p:=by
 have u:k+m<=n:=by have:Nat.min a (n-k)<=n-k:=Nat.min_le_right _ _;lia
 have b:=run_copy_row (P:=prog) w 69 69 3 3 g k (n-k) d f a c _ 3 (List.replicate m (J 20)) underlying69 κ s (by rwa [I2]) (λj v i=>by
  have l:j<m:=by have:=(ym.1 i).1;simpa using this
  rw[yaW,if_pos l]at i;injection i with i;rw[<-i];exact h j l) (by simp[(by simp[reps20];lia:(reps20 k n).length=n)];lia) (by intro v x;rw[List.eq_of_mem_replicate x];rfl)
 have r:=qV (k:=k) (n:=n) m;unfold splice at r;rw[I2]at b r;have e:(reps20 k n).toArray.toList.take k++List.replicate m (Value.int .i64 20)++(reps20 k n).toArray.toList.drop (k+m)=reps20 (k+m) n:=ϰ r;rw[e]at b;exact⟨_,b,setRow_heap w g _ _ 3 _ s,below_setRow z q _⟩
def Cn(n F U:Nat)(R:n<=6)(Y:0<n)(w:Δ)(B:w.cell? (aT F 0)=some (J 20)):ϖ 288 #[sT F 1 U,J n] w λe T=>∃g,w.heap.size<=g/\e=.returned (sT g n n)/\Ϟ w T/\∀q,q<n->T.cell? (aT g q)=some (J 20):=by
 have z:=yI w _ B;have S:¬n<0:=ω;have M:=IG n R w;go_enter func288,ntmps288;go_wp2_with fail;apply M.mono;rintro e a⟨rfl,rfl⟩;have Q:¬9223372036854775807<n:=ω;have X:=Ap n R a;have O:Hid ((a.alloc (.cells (ints (List.replicate n 0)).toArray 3)).heap[a.heap.size]?=some (.cells (reps20 0 n).toArray 3 (0,0))):=by have:=af.d a _ rfl 3 (ints (List.replicate n 0)).toArray;unfold af at this;rw[Hid,this];simp[reps20,ints]
 have l:Hid ((a.alloc (.cells (ints (List.replicate n 0)).toArray 3)).cell? (aT F 0)=some (J 20)):=(I4 _ _ _ z).trans B;have h:Hid (Ϟ a (a.alloc (.cells (ints (List.replicate n 0)).toArray 3))):=Ϡ.alloc Ϫ _;obtain⟨w3,D,b,p⟩:=rO _ a _ _ 0 n 1 _ 1 U n O (oI _) (by show 1=min 1 (n-0);lia) (λj P=>by obtain rfl:j=0:=(by lia);exact l) h Ϫ;simp only[Nat.sub_zero,yS]at D b;have A:=ah b;have G:=ah p;clear M B b p O l h;go_wp2_with fail;go_loopw [8] (λi wr=>∃k:Nat,1<=k/\k<=n/\i=J k/\wr.heap[a.heap.size]?=some (.cells (reps20 k n).toArray 3 (0,0))/\Ϟ a wr) λi _=>n-(intOf i).toNat
 case atStart=>exact⟨1,ω,ω,rfl,A,G⟩
 case round=>
  obtain⟨k,a3,hk,rfl,V,L⟩:=hrel;have E:=ah V;have N:=ah L;clear V L;by_cases Z:k<n
  .have H:(k:Int)<(n:Int):=ω;have a4:(0:Int)<=(k:Int):=ω;have r:(k:Int)<=(n:Int):=ω;obtain⟨w4,t,s,y⟩:=rO wr.drew a a.heap.size a.heap.size k n (Nat.min k (n-k)) (aT a 0) k n (n-k) E hk rfl (λj P=>by have x:j<k:=yg P (Nat.min_le_left _ _);rw[(by unfold Addr.add;split<;>simp_all:(⟨a.heap.size,0,none⟩:Addr).add j=(aT a j))];show wr.cell? _=_;rw[cell_of_row wr _ j _ 3 (0,0) E];unfold reps20;rw[ya7,y7 (ϰ x),yaW,if_pos x]) N.drew Ϫ
   have o:=ah s;have C:=ah y;have v:Hid (1<=Nat.min k (n-k)/\Nat.min k (n-k)<=n-k):=⟨by show 1<=min k (n-k);lia,Nat.min_le_right _ _⟩;generalize Nat.min k (n-k)=m at t o v;clear s y;have a2:¬n=k:=ω;go_wp2_with fail;refine wp_region_held_drew (S:=λ_=>True) rfl trivial λc=>?_;(iterate 7 refine ψ ?_);refine we 7 λK I=>?_;go_simp;refine I.out _ _ trivial λc=>?_;clear I K;try simp only[pU]
   (iterate 2 refine ψ ?_)
   refine wpAnyH_done κ ?_ _;go_wp2_with fail;have a0:=v.out;rw[(by rw[LX];lia:IntKind.i64.wrap ((k:Int)+(m:Int))=((k+m:Nat):Int))];exact⟨⟨k+m,ω,ω,rfl,o,C⟩,by simp[intOf];lia⟩
  have a1:¬(k:Int)<(n:Int):=ω;have r:k=n:=ω;go_wp2_with fail;go_ret;refine⟨a.heap.size,Ϫ,rfl,N,λq W=>?_⟩;rw[cell_of_row wr _ q _ 3 (0,0) E];simp[reps20,r,W]
variable {w w':Δ}{F:ϑ}{b:Nat}{h:Hd}{kn:List (Υ)}{l:aL}{evs:List Ev}{snt:List bC}{kb mb:Nat}{rbs:Ϙ}{es:Array MapEntry}{clk:Nat}{ev sv:Θ}
end
def BG{l:aL}:cV l↔Mo.gv (l.map Prod.fst):=by unfold cV Mo.gv;rw[List.pairwise_map];constructor;intro c;refine c.imp λ{x y}a e=>?_;rw[<-Kr,cu]at a;exact a ⟨e.1.symm,e.2.symm⟩;intro c;refine c.imp λ{x y}a=>?_;rw[<-Kr,cu];exact λe=>a ⟨e.1.symm,e.2.symm⟩
structure Ok(h:Hd)(kn:List (Υ))(ms:List ϥ)(evs:List Ev):Prop where
 e:∀m∈ms,∃s:Nat,s<h.n/\m.a=s/\m.c.length=h.n/\0<=m.seq/\m.seq<=20
 d:Ab h.n (kn.getD h.a [])
 a:evs.length+wK (kn.getD h.a [])<=1000
def jq(f:Codec.Frame)(rv cv mv:Θ):Θ:=.agg #[J f.c,J f.f,J f.j,J f.b,J f.h,J f.a,J f.e,rv,cv,mv]

def oc(n:Nat)(b:ϣ)(c:Nat)(w:Δ):ϖ 169 #[.slice b n c,J n] w λe a=>ϱ e (.bool true)/\a=w:=by go_enter func169,ntmps169;go_wp2;go_ret;exact⟨rfl,rfl⟩
def od(n:Nat)(b:ϣ)(c:Nat)(w:Δ):ϖ 169 #[.slice b 0 c,J n] w λe a=>ϱ e (.bool true)/\a=w:=by
 by_cases d:0=n
 .go_enter func169,ntmps169;go_wp2;go_ret;exact⟨rfl,rfl⟩
 go_enter func169,ntmps169;go_wp2;go_ret;exact⟨rfl,rfl⟩



variable {base:Nat}{v:Θ}
def mE{l:Υ}(hr:w.ownsRow base 3 1 v n (ints l))(hn:0<n):∃g cap,v=sT g n cap/\base<=g/\g<w.heap.size/\∀j,j<l.length->ε w g j (J (l.getD j 0)):=by
 rcases hr.2 with h0|⟨g,cap,cur,hv,-⟩
 .have:=h0.2;lia
 have hob:v.ownBlock=some g:=by rw[hv];rfl
 have hc:=hr.cells hob;refine⟨g,cap,hv,(hr.lt g hob).1,(hr.lt g hob).2,λj hj=>?_⟩;have:=hc j (J (l.getD j 0)) (by simp[ints,hj]);rwa [(by unfold Addr.add;split<;>simp_all:(⟨g,0,none⟩:Addr).add j=(aT g j))]at this
def bG{sz:Nat}{e:ϟ}{xs:Ϣ}(hr:w.ownsRow base e sz v n xs):∃ao cap,v=.slice ao n cap:=by rcases hr.2 with h0|⟨g,cap,cur,hv,-⟩;exact⟨none,0,by rw[h0.1,h0.2]⟩;exact⟨_,_,hv⟩
def tP:(prog.info? 111).map (λi=>(i.zero,i.size,i.bytes))=some (some (.agg #[J 0,.string ⟨#[]⟩]),2,24):=κ
def lF(f:Codec.Frame):bC:=(f.j,⟨(Codec.im f).toArray⟩)
def Aw(p:PA w F b h kn l evs snt kb mb rbs es clk ev sv)(f:Codec.Frame)(o:f.f=h.a)(I y D:ϣ)(A t B E z s:Nat)(hr:aw w w.heap.size (.slice I A t) f.g)(X:aw w w.heap.size (.slice y B E) f.i)(hm:ba w w.heap.size (.slice D z s) f.d)(L:Codec.dg f=true)(hs:snt.length<=1000000):ϖ 165 #[pT b 0,.agg #[J f.c,J 0,J f.j,J f.b,J f.h,J f.a,J f.e,.slice I A t,.slice y B E,.slice D z s]] w λe d=>ϱ e ϳ/\cW (λx=>x=b\/sv.ownBlock=some x) w d/\∃a0,(∀g,a0.ownBlock=some g->sv.ownBlock=some g\/w.heap.size<=g)/\PA d (aY F w) b h kn l evs (snt++[lF f]) kb mb rbs es clk ev a0:=by
 obtain⟨i0,b2,a3,a7,a2⟩:=info_parts tP;have i:Hid (∀d,Ϟ w d->ϖ 168 #[.agg #[J f.c,J h.a,J f.j,J f.b,J f.h,J f.a,J f.e,.slice I A t,.slice y B E,.slice D z s]] d λe a4=>ϱ e (.tuple #[.string (lF f).2,J 0])/\Ϟ d a4):=λd P=>by have:=lx f (.slice I A t) (.slice y B E) (.slice D z s) w.heap.size d (hr.a P) (X.a P) (hm.a P) P.size L;rwa [o]at this
 have HP:=ah p;have n:Hid (lF f=(f.j,(lF f).2)):=rfl;obtain⟨fk,fs,fd,Y,fv,fb,Z,fr,fc,fg⟩:=f;simp only at o i n|-;subst o;generalize b0:(lF _)=pf at i n|-;clear hr X hm L b0;obtain⟨j,S⟩:=pf;have a8:j=fd:=by have:=n;injection this
 subst a8;clear n;simp only at i;have c0:=(p.a.c (w':=w.alloc (.cells #[J fk,J 0,J j,J Y,J fv,J fb,J Z,.slice I A t,.slice y B E,.slice D z s] 165)) (Ϡ.alloc Ϫ _) p.a.f).a 0 _ rfl;simp only[Hd.c,yf,yd]at c0;have HX:Hid (af (w.alloc (.cells #[J fk,J h.a,J j,J Y,J fv,J fb,J Z,.slice I A t,.slice y B E,.slice D z s] 165)) w.heap.size 165 #[J fk,J h.a,J j,J Y,J fv,J fb,J Z,.slice I A t,.slice y B E,.slice D z s]):=af.d w w.heap.size rfl 165 _;have r:Hid (Ϟ w (w.alloc (.cells #[J fk,J h.a,J j,J Y,J fv,J fb,J Z,.slice I A t,.slice y B E,.slice D z s] 165))):=Ϡ.alloc Ϫ _;have H:Hid ((w.alloc (.cells #[J fk,J h.a,J j,J Y,J fv,J fb,J Z,.slice I A t,.slice y B E,.slice D z s] 165)).heap.size=w.heap.size+1):=by simp[Hid]
 clear p;go_enter func165,ntmps165;go_wp21;clear c0;generalize w.alloc _=w1 at HX r H|-;apply (i w1 r).mono;rintro e k⟨rfl,v⟩;have G:=ah (r.trans (v.mono r.size));have b1:=ah (HX.c v (by rw[H];lia));have M:Hid (w.heap.size<k):=by have:=v.size;have:=H.out;simp only[Hid];lia
 clear v HX r H i;go_wp21;have C:=ah (HP.j G);have R:Hid (∀g,sv.ownBlock=some g->g<w.heap.size):=λg hg=>HP.f.k hg;have U:=C.a.a 18 _ rfl;have y2:=b1.a 2 _ rfl;simp only[Hd.c,yf,yd,ye]at U y2;have HS:Hid (∀d,Ϟ k d->ε d b 18 sv/\ε d w 2 (J j)):=λd P=>⟨(P.cell (p:=(aT b 18)) C.a.f).trans U,(P.cell (p:=(aT w 2)) M).trans y2⟩;clear U y2;refine gl.b (λd=>d.cell? _=some sv/\d.cell? _=some (J j)) 13 rfl (HS _ Ϡ.drew) λa=>?_;(iterate 9 refine χ ?_);refine te 9 λK m=>?_;go_simp;have c:Hid (Ϟ k (k.alloc (.cells #[J j,.string S] 111)).drew):=(Ϡ.alloc Ϫ _).drew;refine m.out _ _ (λ_=>HS _ c) λa=>?_;clear m K;try simp only[pU]
 have HE:Hid (af (k.alloc (.cells #[J j,.string S] 111)).drew k.heap.size 111 #[J j,.string S]):=(af.d k k.heap.size rfl 111 _).i;have T:Hid ((k.alloc (.cells #[J j,.string S] 111)).drew.heap.size=k.heap.size+1):=by simp[Hid]
 generalize (k.alloc (.cells #[J j,.string S] 111)).drew=w4 at c HE T a|-;refine te 10 λK m=>?_;apply step_append_lies w4 rfl (.tmp 22) (.tmp 27) 92 rfl 0 111 i0 _ 2 24 underlying92 b2 a3 a7 a2 rfl θ sv snt.length (ar snt) rfl (aQ C.f.d c) (aT k 0) 1 1 [J j,.string S] rfl rfl (IZ HE) (by intro u hu;simp only[yF,yU,or_false]at hu;rcases hu with rfl|rfl<;>rfl) ω (by simp[maxLen];lia) ω (oI _) (k.heap.size+1) T;intro g b4 w5 O q Q a1;have nb:some b≠sv.ownBlock:=λe=>C.f.o e.symm C.a θ rfl;have W:=yg C.a.f c.size;have V:Hid (ε w5 b 18 sv/\ε w5 w 2 (J j)):=
  have h4:=HS _ c;have a5:=yg M c.size;have nx:some w.heap.size≠sv.ownBlock:=λe=>ϕ (R _ e.symm)
  ⟨(q.cell_far ⟨b,18,none⟩ W nb).trans h4.1,(q.cell_far ⟨w.heap.size,2,none⟩ a5 nx).trans h4.2⟩
 have a9:Hid (sv.ownBlock=some g\/w.heap.size<=g):=Q.imp id λe=>ϵ c.size G.size;have N:=ah (C.a7 c q (e:=(j,S)) O (Q.imp id λe=>by lia));have b3:w5.frozen? (aT b 18)=false:=by rw[q.frozen_far ⟨b,18,none⟩ W nb];exact(C.a.c c C.a.f).b 18
 clear O q Q a1 a HE T c HS nb W;refine m.out _ _ (λ_=>V) λa=>?_;clear m K;try simp only[pU]
 have a:=a θ;refine te 11 λK m=>?_;go_simp;refine m.out _ _ (λ_=>V) λa=>?_;clear m K;try simp only[pU]
 refine te 12 λK m=>?_;go_simp;refine m.out _ _ (λ_=>V) λa=>?_;clear m K;try simp only[pU]
 have a:=a θ;refine te 13 λK m=>?_;go_simp;refine m.out _ _ (λh=>absurd rfl h) λ_=>?_;clear m K;try simp only[pU]
 refine gl.done κ ?_ _;go_wp21;go_end0;refine⟨rfl,(cW.d G).c (N.1.e λx _ hx=>.inl hx),_,λg' a6=>by cases a6;exact a9,N.2.k λx hx=>hx.elim .inl λhx=>.inr ?_⟩;have:=G.size;lia
variable {row:Υ}
def PA.a2(p:PA w F b h kn l evs snt kb mb rbs es clk ev sv){r:Nat}(f:rbs[h.a]?=some r)(d:h.a<h.n):aw w w.heap.size (sT r h.n h.n) (kn.getD h.a []):=by obtain⟨i,a,c,e,-⟩:=p.m d;rw[f]at a;injection a with a;subst a;refine .inr ⟨r,0,h.n,by rw[e],c.f,λj g=>?_⟩;rw[yS];exact c.a j _ (ie g)
def PA.a1(p:PA w F b h kn l evs snt kb mb rbs es clk ev sv):PA w (λx=>F x/\x<w) b h kn l evs snt kb mb rbs es clk ev sv:=
 ⟨p.a,p.e,p.map,p.o,p.i,λx c=>⟨⟨(p.d x c).1.d,λg a=>⟨(p.d x c).1.c g a,(p.d x c).1.k a⟩⟩,(p.d x c).2⟩,⟨p.c.d,λg a=>⟨p.c.c g a,p.c.k a⟩⟩,⟨p.f.d,λg a=>⟨p.f.c g a,p.f.k a⟩⟩,⟨p.t,p.a.f⟩,⟨p.z,p.e.h.1⟩,⟨p.s,p.q⟩,λr d=>⟨p.fr r d,p.e.h.2 r d⟩⟩
end
end Go.Proofs.Y
section
namespace Go.Proofs
open Go.Shelf Go.RowKit Go.Lib Go.Sort
def Tryz.sortKeys_ren:Ren:=⟨λ|6=>198|15=>242|14=>241|28=>282|29=>283|20=>274|21=>275|22=>276|23=>277|24=>278|25=>279|26=>280|27=>281|46=>296|47=>297|48=>298|49=>299|50=>300|57=>303|n=>n,λ|22=>238|24=>186|25=>240|39=>195|53=>146|55=>143|46=>283|45=>282|50=>287|66=>294|70=>297|76=>302|77=>303|n=>n,λn=>n⟩
def Tryz.sortKeys:SlLaysF0.n6 prog Tryz.sortKeys_ren:=⟨κ,⟨f198.name,θ,func198.trans (congrArg _ κ)⟩,⟨f241.name,θ,func241.trans (congrArg _ κ)⟩,func242.trans (congrArg _ κ),⟨f274.name,θ,func274.trans (congrArg _ κ)⟩,⟨f275.name,θ,func275.trans (congrArg _ κ)⟩,⟨f276.name,θ,func276.trans (congrArg _ κ)⟩,⟨f277.name,θ,func277.trans (congrArg _ κ)⟩,⟨f278.name,θ,func278.trans (congrArg _ κ)⟩,⟨f279.name,θ,func279.trans (congrArg _ κ)⟩,⟨f280.name,θ,func280.trans (congrArg _ κ)⟩,⟨f281.name,θ,func281.trans (congrArg _ κ)⟩,func282.trans (congrArg _ κ),func283.trans (congrArg _ κ),⟨f296.name,θ,func296.trans (congrArg _ κ)⟩,func297.trans (congrArg _ κ),func298.trans (congrArg _ κ),⟨f299.name,θ,func299.trans (congrArg _ κ)⟩,⟨f300.name,θ,func300.trans (congrArg _ κ)⟩,⟨f303.name,θ,func303.trans (congrArg _ κ)⟩,underlying0,isAgg0,sizeOf0,zeroValue0,underlying3,isAgg3,sizeOf3,zeroValue3,underlying4,isAgg4,sizeOf4,zeroValue4,underlying5,isAgg5,sizeOf5,zeroValue5,underlying9,isAgg9,sizeOf9,zeroValue9,underlying238,isAgg238,sizeOf238,zeroValue238,underlying240,isAgg240,sizeOf240,zeroValue240,underlying195,isAgg195,sizeOf195,zeroValue195,underlying282,isAgg282,sizeOf282,zeroValue282,underlying283,isAgg283,sizeOf283,zeroValue283,underlying287,isAgg287,sizeOf287,zeroValue287,underlying146,isAgg146,sizeOf146,zeroValue146,underlying143,isAgg143,sizeOf143,zeroValue143,underlying294,isAgg294,sizeOf294,zeroValue294,underlying297,isAgg297,sizeOf297,zeroValue297,underlying302,isAgg302,sizeOf302,zeroValue302,underlying303,isAgg303,sizeOf303,zeroValue303⟩
end Go.Proofs
namespace Go.Proofs.Y
open Go.Shelf Go.RowKit Go.Lib Go.Sort
def pV(x:Int)(w:Δ):ϖ 284 #[J x] w λe a=>ϱ e (.bool false)/\a=w:=by go_enter func284,ntmps284;go_wp2;go_ret;exact⟨rfl,rfl⟩
def pF(x y:Int)(w:Δ):ϖ 244 #[J x,J y] w λe c=>ϱ e (J (Lib.compareInt x y))/\c=w:=by
 have d:x<y\/y<x\/(¬x<y/\¬y<x):=ω;rcases d with b|b|⟨b,f⟩
 .have a:Hid (Lib.compareInt x y=-1):=by simp[Hid,Lib.compareInt,b]
  go_enter func244,ntmps244;go_wp2_with (go_at_call 284;apply (pV _ _).m;rintro c rfl);go_ret;exact⟨dN a.symm,rfl⟩
 .have g:¬x<y:=ω;have a:Hid (Lib.compareInt x y=1):=by simp[Hid,Lib.compareInt,b,g]
  go_enter func244,ntmps244;go_wp2_with (go_at_call 284;apply (pV _ _).m;rintro c rfl);go_ret;exact⟨dN a.symm,rfl⟩
 have a:Hid (Lib.compareInt x y=0):=by simp[Hid,Lib.compareInt,b,f]
 go_enter func244,ntmps244;go_wp2_with (go_at_call 284;apply (pV _ _).m;rintro c rfl);go_ret;exact⟨dN a.symm,rfl⟩
def K6(a b:Int)(g c:Nat)(w:Δ)(m:ε w g 0 (J a))(n:ε w g 1 (J b)):ϖ 243 #[sT g 2 c] w λe l=>ϱ e (J (if a=0 then b else a))/\l=w:=by
 by_cases f:a=0
 .subst f;have k:Hid ((if 0=0 then b else 0)=b):=by simp[Hid]
  go_enter func243,ntmps243;go_wp21;go_loopw [8] (λi j=>j=w/\(i=J 0\/i=J 1\/(i=J 2/\b=0))) λi _=>2-(intOf i).toNat
  case atStart=>exact⟨rfl,.inl rfl⟩
  case round=>
   obtain⟨rfl,rfl|rfl|⟨rfl,d⟩⟩:=hrel
   .go_wp2_with fail;exact⟨ς,by simp[intOf]⟩
   .by_cases d:b=0
    .subst d;go_wp2_with fail;exact⟨ς,by simp[intOf]⟩
    have h:(b !=0)=true:=by rwa [bne_iff_ne]
    go_wp21
    go_ret;exact⟨dN k.symm,rfl⟩
   subst d;go_wp21;go_ret;exact⟨dN k.symm,rfl⟩
 rw[if_neg f];have h:(a !=0)=true:=by rwa [bne_iff_ne]
 go_enter func243,ntmps243;go_wp21;go_loopw [8] (λi j=>j=w/\i=J 0) λi _=>2-(intOf i).toNat
 case atStart=>exact⟨rfl,rfl⟩
 case round=>
  obtain⟨rfl,rfl⟩:=hrel;go_wp21;go_ret;exact⟨rfl,rfl⟩
def iZ(x y:Int×Int):Int:=if Lib.compareInt x.1 y.1=0 then Lib.compareInt x.2 y.2 else Lib.compareInt x.1 y.1
def ja(x:Int×Int):Ϣ:=[J x.1,J x.2]
def pE(x y:Int×Int)(W:Δ):ϖ 199 #[.agg #[J x.1,J x.2],.agg #[J y.1,J y.2]] W λe s=>ϱ e (J (iZ x y))/\∃q l,s=grow (W.drewN q) l:=by
 let ⟨d,b⟩:=x
 let ⟨c,f⟩:=y
 unfold iZ;simp only;have j:=pF d c;have p:=pF b f;generalize Lib.compareInt d c=h at j|-;generalize Lib.compareInt b f=i at p|-;have m:=(af.d W _ rfl 186 #[J d,J b]).g (.cells #[J c,J f] 186);have A:=af.d (W.alloc (.cells #[J d,J b] 186)) (W.heap.size+1) ς 186 #[J c,J f];have t:=m.z 0;have u:=m.z 1;have v:=A.z 0;have r:=A.z 1;obtain⟨F,n⟩:∃F,(if h=0 then i else h)=F:=⟨_,rfl⟩;rw[n];go_enter func199,ntmps199;go_wp21;refine wp_region_held_drew (S:=λs=>ε s W 0 (J d)/\ε s W 1 (J b)/\s.cell? ⟨W.heap.size+1,0,none⟩=some (J c)/\s.cell? ⟨W.heap.size+1,1,none⟩=some (J f)) rfl ⟨t,u,v,r⟩ λa=>?_;(iterate 4 refine ψ ?_);apply wk 5;apply wk 6;apply wk 7;apply wk 8;refine we 4 λK g=>?_;go_simp;apply ((ah j) _).m;rintro L rfl;go_wp21;refine g.out _ _ ⟨t,u,v,r⟩ λa=>?_;refine we 9 λK g=>?_;go_simp;apply ((ah p) _).m;rintro L rfl;go_wp21;refine g.out _ _ ⟨t,u,v,r⟩ λa=>?_;refine we 10 λK g=>?_;go_simp;have z:=(af.d ((W.alloc (.cells #[J d,J b] 186)).alloc (.cells #[J c,J f] 186)) (W.heap.size+1+1) ς 3 #[J h,J i]).i;have D:=z.z 0;have E:=z.z 1;have o:=K6 h i _ 2 _ D E;rw[(ah n)]at o;have H:Hid (ϖ 243 _ _ _):=o;have k:Hid ((((W.alloc (.cells #[J d,J b] 186)).alloc (.cells #[J c,J f] 186)).alloc (.cells #[J h,J i] 3)).drew.cell? (aT W 0)=some (J d)/\(((W.alloc (.cells #[J d,J b] 186)).alloc (.cells #[J c,J f] 186)).alloc (.cells #[J h,J i] 3)).drew.cell? (aT W 1)=some (J b)/\(((W.alloc (.cells #[J d,J b] 186)).alloc (.cells #[J c,J f] 186)).alloc (.cells #[J h,J i] 3)).drew.cell? ⟨W.heap.size+1,0,none⟩=some (J c)/\(((W.alloc (.cells #[J d,J b] 186)).alloc (.cells #[J c,J f] 186)).alloc (.cells #[J h,J i] 3)).drew.cell? ⟨W.heap.size+1,1,none⟩=some (J f)):=by refine⟨(I4 _ _ _ ?_).trans t,(I4 _ _ _ ?_).trans u,(I4 _ _ _ ?_).trans v,(I4 _ _ _ ?_).trans r⟩<;>simp<;>lia
 have I:Hid (∃q l,(((W.alloc (.cells #[J d,J b] 186)).alloc (.cells #[J c,J f] 186)).alloc (.cells #[J h,J i] 3)).drew=grow (W.drewN q) l):=⟨1,_,by rw[alloc_eq_grow,alloc_eq_grow,alloc_eq_grow,grow_grow,grow_grow];rfl⟩;generalize (((W.alloc (.cells #[J d,J b] 186)).alloc (.cells #[J c,J f] 186)).alloc (.cells #[J h,J i] 3)).drew=M at H k I|-;refine g.out _ _ k λa=>?_;refine we 11 λK g=>?_;go_simp;apply H.m;rintro L rfl;go_wp21;refine g.out _ _ k λa=>?_;apply wk 12;refine wpAnyH_done κ ?_ _;go_wp21;go_ret;exact⟨rfl,I⟩
def vE(b c a:Nat)(w:Δ):CmpLays prog 199 #[] ja 2 iZ b c a w:=λ_ _ _ _ x y=>pE x y _
def Am(x y:Int×Int):ltOf iZ x y=decide (x.1<y.1\/(x.1=y.1/\x.2<y.2)):=by unfold ltOf iZ Lib.compareInt;by_cases c:x.1<y.1;simp[c];by_cases d:y.1<x.1;have:¬x.1=y.1:=ω;simp[c,d,this];have b:x.1=y.1:=ω;by_cases a:x.2<y.2;simp[b,a];by_cases e:y.2<x.2<;>simp[b,a,e]
def IT:SWO (ltOf iZ) where
 irrefl x:=by rw[Am];simp
 trans x y z h1 h2:=by rw[Am,decide_eq_true_eq]at*;omega
 ntrans x y z h1 h2:=by rw[Am,decide_eq_false_iff_not]at*;omega
end Go.Proofs.Y
end
namespace Go.Proofs.Y
section
open Go.RowKit
open Go.ChangeMaps (setBlock)
variable {w w':Δ}{F:ϑ}{b:Nat}{h:Hd}{kn:List (Υ)}{l:aL}{evs:List Ev}{snt:List bC}{kb mb:Nat}{rbs:Ϙ}{es:Array MapEntry}{clk:Nat}{ev sv:Θ}
def ia{w f d:Δ}{r:Nat}(c:Ϟ w f)(i:w.heap.size<=r)(a:f.grownBy d (some r)):Ϟ w d:=c.trans {a with block:=λk g=>a.block k (yg g c.size) (λe=>by injection e with e;lia)}
end
section
open Go.Shelf Go.RowKit Go.Lib Go.Sort
open Go.ChangeMaps (setBlock)
variable {w:Δ}{kg:Nat}
def gm(w:Δ)(kg:Nat)(ks:List (Int×Int)):Prop:=∀i x,ks[i]?=some x->w.cell? ⟨kg,2*i,none⟩=some (J x.1)/\w.cell? ⟨kg,2*i+1,none⟩=some (J x.2)/\w.frozen? ⟨kg,2*i,none⟩=false/\w.frozen? ⟨kg,2*i+1,none⟩=false
def pS{a:List (Int×Int)}(h:gm w kg a):HoldsK ja 2 w kg 0 a.toArray:=by
 intro j d;rw[size_flatK,yJ]at d;rw[get_flatK _ _ _ _ (ϰ d)];have b:j/2<a.length:=ω;obtain⟨i,g,l,k⟩:=h (j/2) _ (yh b);rw[(by simp[b]:a.toArray[j/2]! =a[j/2]),yS];rcases Nat.mod_two_eq_zero_or_one j with c|c
 .have f:j=2*(j/2):=ω;rw[c];refine⟨?_,?_⟩
  .show w.cell? _=some (J _);rw[<-i];congr 2
  rw[<-l];congr 2
 have f:j=2*(j/2)+1:=ω;rw[c];refine⟨?_,?_⟩
 .show w.cell? _=some (J _);rw[<-g];congr 2
 rw[<-k];congr 2
def zi{d:Array (Int×Int)}(h:HoldsK ja 2 w kg 0 d):gm w kg d.toList:=by
 intro i x c;have f:i<d.size:=by have:=(ym.1 c).1;simpa using this
 have e:d[i]! =x:=by have:=(ym.1 c).2;rw[getElem!_pos d i f];simpa using this
 have b:=h (2*i) (by simp;lia);have a:=h (2*i+1) (by simp;lia);rw[get_flatK _ _ _ _ ω,yS]at b a;rw[show 2*i/2=i by lia,show 2*i%2=0 by lia,e]at b;rw[show (2*i+1)/2=i by lia,show (2*i+1)%2=1 by lia,e]at a;exact⟨b.1,a.1,b.2,a.2⟩
def om(w:Δ)(a m:Nat)(d:Array (Int×Int))(f:Array Obj):w.grownBy (sortWorldK ja 2 w a 0 m d f) (some a):=by refine⟨rfl,rfl,rfl,?_,λk g c=>?_⟩;unfold sortWorldK putRowK;simp[Sort.ahead];unfold sortWorldK putRowK;rw[heap_grow_old _ _ (by simpa[Sort.ahead]using g)];unfold Sort.putRow Sort.mapBlock;show ((Sort.ahead w m).heap.modify a _)[k]?=_;rw[LI,if_neg λe=>(λe=>c (by rw[e])) e.symm];rfl
def wQ(w:Δ)(b f:Nat)(g:List (Int×Int))(r:gm w b g)(d:b<w)(u:g.length<=1000000):ϖ 198 #[sT b g.length f,.func (.func 199) #[] #[]] w λe l=>ϱ e ϳ/\w.grownBy l (some b)/\∃c,c.Perm g/\gm l b c/\c.Pairwise λx y=>ltOf iZ y x=false:=by
 have B:=enters_of func199 κ rfl;have a:=AnyQ.slices_SortFunc Tryz.sortKeys 2 isAgg186 sizeOf186 ja (λ_=>rfl) (λx v q=>by simp[ja]at q;rcases q with rfl|rfl<;>rfl) iZ IT 199 #[] b 0 f _ w B (vE b 0 _ w) (pS r) d (by simp;lia);change Calls _ 198 _ _ _ at a;simp only[yJ]at a;apply a.mono;rintro e l⟨rfl,m,n,t,s,k,rfl⟩;have o:=s.1;refine⟨rfl,om _ _ _ _ _,_,?_,zi (holdsK_sortWorldK ja 2 w b 0 n _ m t d (pS r) o),Lb.2 λi j A p h=>?_⟩;rotate_left;have:=k i j (oI _) h (by have z:=o;simp only[yJ]at z;have C:=p;simp only[AG]at C;lia);rw[getElem!_pos m j (ϰ p),getElem!_pos m i (ϰ A)]at this;simpa using this;have:=s.2.2;rwa [Array.extract_eq_self_of_le (by rw[o];simp),Array.extract_eq_self_of_le ς]at this
variable {w':Δ}{F:ϑ}{b:Nat}{h:Hd}{kn:List (Υ)}{l:aL}{evs:List Ev}{snt:List bC}{kb mb:Nat}{rbs:Ϙ}{es:Array MapEntry}{clk:Nat}{ev sv:Θ}{seen:Array Nat}{vs rest:List MapEntry}
def qU{r s:Type}(f:r->s):∀{i e:List s},i.Perm e->∀{l:List r},l.map f=e->∃g:List r,g.Perm l/\g.map f=i:=by
 intro i e z;induction z with
 |nil=>intro l d;exact⟨[],by rw[List.map_eq_nil_iff.1 d],rfl⟩
 |@cons x i e _ t=>
  intro l d;match l,d with
  |a::l,d=>
   rw[yN]at d;injection d with h1 h2;obtain⟨g,n,v⟩:=t h2;exact⟨a::g,n.cons a,by rw[yN,v,h1]⟩
 |@swap x y e=>
  intro l d;match l,d with
  |a::c::l,d=>
   rw[yN,yN]at d;injection d with h1 h2;injection h2 with h2 h3;exact⟨_,List.Perm.swap a c l,by rw[yN,yN,h1,h2,h3]⟩
 |trans _ _ p o=>
  intro l d;obtain⟨A,q,m⟩:=o d;obtain⟨u,j,k⟩:=p m;exact⟨u,j.trans q,k⟩
def Gj:(prog.info? 186).map (λi=>(i.zero,i.size,i.bytes))=some (some (.agg #[J 0,J 0]),2,16):=κ
def Gl:(prog.info? 179).map (λi=>(i.zero,i.size,i.bytes))=some (some (.agg #[J 0,J 0,sN,.string ⟨#[]⟩]),4,56):=κ
def aH(vs:List MapEntry):List (Int×Int):=vs.map λe=>oh e.key
def bU(ks:List (Int×Int)):Ϣ:=ks.flatMap ja
def nP:∀{ks:List (Int×Int)}{i:Nat}{x:Int×Int},ks[i]?=some x->(bU ks)[2*i]?=some (J x.1)/\(bU ks)[2*i+1]?=some (J x.2)
 |[],i,x,h=>by cases h
 |y::ks,0,x,h=>by simp only[AH,yA]at h;subst h;exact⟨rfl,rfl⟩
 |y::ks,i+1,x,h=>by have:=nP (by simpa using h);have e:bU (y::ks)=[J y.1,J y.2]++bU ks:=rfl;rwa [e,show 2*(i+1)=2*i+1+1 by lia]
def zh{d g n:Nat}{k:List (Int×Int)}(h:w.ownsRow d 186 2 (sT g k.length n) k.length (bU k)):gm w g k/\d<=g/\g<w:=by
 have q:=h.cells rfl;have u:=h.lt g rfl;have f:∀j,(⟨g,0,none⟩:Addr).add j=(aT g j):=λj=>by unfold Addr.add;split<;>simp_all
 obtain⟨c,e⟩:∃c,w.heap[g]?=some _:=by rcases h.2 with ⟨a,-⟩|⟨v,p,c,a,-,m,-⟩;cases a;injection a with a;injection a with a;injection a with a;subst a;exact⟨c,m⟩
 refine⟨λi x s=>?_,u⟩;obtain⟨a,t⟩:=nP s;have r:=q _ _ a;have o:=q _ _ t;rw[f]at r o;exact⟨r,o,frozen_of_row w g _ c 186 e,frozen_of_row w g _ c 186 e⟩
structure gY(es:Array MapEntry)(seen:Array Nat)(vs rest:List MapEntry):Prop where
 a:(vs++rest).Perm es.toList
 out:∀e∈rest,seen.contains e.born=false
 f:∀e∈vs,seen.contains e.born=true
def gY.c(v:gY es seen vs rest)(q:(es.toList.map (·.born)).Nodup){e:MapEntry}(p:e∈es.toList)(n:seen.contains e.born=false):∃d,gY es (seen.push e.born) (vs++[e]) d:=by
 have i:=v.a.mem_iff.2 p;have k:e∈rest:=by rcases yz.1 i with a|a;rw[v.f e a]at n;cases n;exact a
 obtain⟨A,B,rfl⟩:=List.append_of_mem k;have o:(vs++[e]++(A++B)).Perm es.toList:=by refine List.Perm.trans ?_ v.a;rw[I3];apply List.Perm.append_left vs;rw[List.singleton_append];exact List.perm_middle.symm
 have f:=(o.map _).nodup_iff.2 q;refine⟨A++B,o,λg c=>?_,λg c=>?_⟩
 .have a:=v.out g (by rcases yz.1 c with h|h<;>simp[h]);have j:g.born≠e.born:=λm=>by rw[y8,GZ]at f;exact f.2.2 e.born ς g.born (Hq c) m.symm
  rw[Array.contains_push,a];simp[j]
 rcases yz.1 c with a|a;rw[Array.contains_push,v.f g a];simp;rw[yu]at a;subst a;simp
def gY.d(v:gY es seen vs rest)(d:(leftOf es seen).size=0):vs.Perm es.toList:=by
 have c:rest=[]:=by
  apply List.eq_nil_iff_forall_not_mem.2;intro e a;have f:=v.a.mem_iff.1 (yz.2 (.inr a));have:e∈(leftOf es seen).toList:=by unfold leftOf;rw[Array.toList_filter,yM];exact⟨f,by rw[v.out e a];rfl⟩
  rw[Array.eq_empty_of_size_eq_zero d]at this;cases this
 have:=v.a;rwa [c,IX]at this
def vU(a:dX es clk l):aH es.toList=l.map λx=>(x.1.a,x.1.seq):=by unfold aH;have:=congrArg (List.map oh) a.key;rwa [AD,AD]at this
def qM(a:List (Int×Int))(x:Int×Int):bU (a++[x])=bU a++[J x.1,J x.2]:=by simp[bU,ja]
