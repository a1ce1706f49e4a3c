import Derived.Maps.RangeRun
import Derived.WideKeyRuns
import Derived.ChangeMaps4
import Derived.Maps.RangeWalk
import Derived.Shelf.SlMaps.DeleteFunc
import Derived.BigRegion
import Derived.Deep.RegionWith
import Derived.ChangeAlike
import Derived.Test.YtoklolfaemhfnaaGreatDoorZac
import Derived.Test.YtoklolfaemhfnaaGreatDoorZao
import Derived.Test.YtoklolfaemhfnaaGreatDoorZap
set_option maxRecDepth 100000
set_option maxHeartbeats 0
set_option linter.defProp false
open Go.Proofs.Tryz (prog)
namespace Go.Proofs.YtoklolfaemhfnaaGreatDoor
section
open Go.RowKit
open Go.ChangeMaps (setBlock)
variable {es:Array MapEntry}{clk mb:Nat}{l:List (Codec.Msg × Value)}{s q:Int}{x:Codec.Msg × Value}
def bQ(s q:Int):Value:=.agg #[J s,J q]
def GL:(match prog.underlying 186 with|some (.array _ _)|some (.struct _)=>true|_=>false)=true:=κ
def sf(w:World)(b:Array Value)(a:Nat){v:Value}(h:b[a]?=some v):(part 3 b a).run prog w=.ok v w:=by
 simp[part,go_sem,h]
def Eo(d:Nat)(w:World)(a b:Int):(Op.equalIn (d+1) 3 (J a) (J b)).run prog w=.ok (a == b) w:=by
 unfold Op.equalIn;simp[go_sem]
def En(w:World)(s q a b:Int):(Op.equal 186 (bQ s q) (bQ a b)).run prog w=.ok (s == a && q == b) w:=by
 have c:∀d,(Op.equalIn (d+1+1) 186 (bQ s q) (bQ a b)).run prog w=.ok (s == a && q == b) w:=by
  intro d;have j:=sf w #[J s,J q] 0 rfl;have h:=sf w #[J a,J b] 0 rfl;have m:=sf w #[J s,J q] 1 rfl;have g:=sf w #[J a,J b] 1 rfl;have i:=Eo d w s a;have k:=Eo d w q b;unfold Op.equalIn;by_cases f:s=a <;> by_cases e:q=b <;> simp[go_sem,bQ,f,e]
 exact c 9998
def mi(w:World)(c:Bool)(s q:Int):(Instr.checkKey c 10000 186 (bQ s q)).run prog w=.ok () w:=by
 have d:∀n a,(Instr.checkKey c (n+1) 3 (J a)).run prog w=.ok () w:=by
  intro n a;unfold Instr.checkKey;simp[go_sem]
 have b:∀n,(Instr.checkKey c (n+1+1) 186 (bQ s q)).run prog w=.ok () w:=by
  intro n;have g:=sf w #[J s,J q] 0 rfl;have h:=sf w #[J s,J q] 1 rfl;have e:=d n s;have f:=d n q;unfold Instr.checkKey;simp[go_sem,bQ,e,f]
 exact b 9998
structure dX (es:Array MapEntry) (clk:Nat) (l:List (Codec.Msg × Value)):Prop where
 key:es.toList.map (·.key)=l.map fun x=>bQ x.1.a x.1.seq
 val:es.toList.map (·.val)=l.map fun x=>aU x.1 x.2
 born:(es.toList.map (·.born)).Nodup
 b:∀e∈es.toList,e.born<clk
def gL(s q:Int)(m:Codec.Msg):Bool:=m.a == s && m.seq == q
def cu{m:Codec.Msg}:gL s q m=true↔m.a=s/\m.seq=q:=by simp[gL]
def mr(s q:Int):List (Codec.Msg × Value)->Nat->Option (Nat × Value)
 |[],_=>none
 |x::l,i=>if gL s q x.1=true then some (i,aU x.1 x.2) else mr s q l (i+1)
def pM:∀{l:List (Codec.Msg × Value)}{i:Nat},(∀x∈l,gL s q x.1=false)->mr s q l i=none
 |[],_,_=>rfl
 | x :: l, i, h => by
   rw[mr,if_neg (by simp[h x ς])];exact pM fun y a=>h y (by simp[a])
def ni:∀{l:List (Codec.Msg × Value)}{i:Nat}{x:Codec.Msg × Value},x∈l->gL s q x.1=true->l.Pairwise (fun x y=>gL x.1.a x.1.seq y.1=false)->∃j,l[j]?=some x/\mr s q l i=some (i+j,aU x.1 x.2)
 |[],_,x,h,_,_=>by cases h
 | y :: l, i, x, h, b, c => by
   rw[K9] at c;cases a:gL s q y.1 with
   | true =>
     have e:y=x:=by
      rcases yF.1 h with rfl|h
      ·rfl
      ·have:=c.1 x h;rw[cu] at b a;simp[gL,b.1,b.2,a.1,a.2] at this
     subst e;exact⟨0,rfl,by rw[mr,if_pos a];rfl⟩
   | false =>
     rcases yF.1 h with rfl|h
     ·rw[b] at a;cases a
     ·obtain⟨j,f,d⟩:=ni h b c.2;refine⟨j+1,f,?_⟩;rw[mr,if_neg (by simp[a]),d,show i+1+j=i+(j+1) by omega]
def Ag(w:World)(s q:Int):∀(b:List MapEntry) (l:List (Codec.Msg × Value)) (i:Nat),b.map (·.key)=l.map (fun x=>bQ x.1.a x.1.seq)->b.map (·.val)=l.map (fun x=>aU x.1 x.2)->
 (Instr.findAsking 186 (bQ s q) b i).run prog w=.ok (mr s q l i) w
 | [], l, i, a, _ => by
   cases l with
   |nil=>rfl
   |cons x l=>simp at a
 |e::b,[],i,a,_=>by simp at a
 | e :: b, x :: l, i, a, c => by
   simp only[yN,Kv] at a c;have f:=Ag w s q b l (i+1) a.2 c.2;have d:=En w s q x.1.a x.1.seq;have g:(s == x.1.a && q == x.1.seq)=gL s q x.1:=by
    unfold gL;rw[BEq.comm,BEq.comm (a:=q)]
   rw[Instr.findAsking,a.1,c.1,Sem.run_bind,d,g,mr];simp only[Result.andThen];cases h:gL s q x.1
   ·rw[if_neg Bool.false_ne_true,if_neg Bool.false_ne_true];exact f
   ·rw[if_pos rfl,if_pos rfl];rfl
def Ah(w:World)(s q:Int)(h:dX es clk l) :
 (Instr.findKey 186 (bQ s q) es.toList).run prog w=.ok (mr s q l 0) w:=by
 rw[run_findKey_eq w GL,Ag w s q _ l 0 h.key h.val]
def my(w:World)(s q:Int)(e:w.heap[mb]?=some (.map es clk))(h:dX es clk l)(f:∀x∈l,gL s q x.1=false)(c:Bool) :
 (Instr.lookup 156 (.map (some mb)) (bQ s q) c).run prog w=.ok (if c then .tuple #[.agg #[J 0,J 0,sN,.string ⟨#[]⟩],.bool false] else .agg #[J 0,J 0,sN,.string ⟨#[]⟩]) w:=by
 have a:=Ah w s q h;rw[pM f] at a;have b:=fun d=>mi w d s q;generalize bQ s q=g at a b ⊢;rw[Instr.lookup];simp only[Sem.run_bind,run_underlying Tryz.underlying156,MapKept.run_getObj_map e,Result.andThen,Sem.run_pure,b,a,Tryz.zeroValue179]
def mz(w:World)(s q:Int)(i:w.heap[mb]?=some (.map es clk))(h:dX es clk l)(f:l.Pairwise fun x y=>gL x.1.a x.1.seq y.1=false)(d:x∈l)(k:gL s q x.1=true)(c:Bool) :
 (Instr.lookup 156 (.map (some mb)) (bQ s q) c).run prog w=.ok (if c then .tuple #[aU x.1 x.2,.bool true] else aU x.1 x.2) w:=by
 have a:=Ah w s q h;obtain⟨j, -,e⟩:=ni d k f;rw[e] at a;have b:=fun g=>mi w g s q;generalize bQ s q=n at a b ⊢;generalize aU x.1 x.2=m at a ⊢;rw[Instr.lookup];simp only[Sem.run_bind,run_underlying Tryz.underlying156,MapKept.run_getObj_map i,Result.andThen,Sem.run_pure,b,a]
def Au(w:World)(s q:Int)(v:Value)(b:w.heap[mb]?=some (.map es clk))(h:dX es clk l)(e:∀x∈l,gL s q x.1=false) :
 (Instr.mapUpdate 156 (.map (some mb)) (bQ s q) v).run prog w=.ok () (setBlock w mb (.map (es.push { key:=bQ s q,val:=v,born:=clk }) (clk+1))):=by
 have a:=Ah w s q h;rw[pM e] at a;have c:=fun d=>mi w d s q;generalize bQ s q=f at a c ⊢;rw[Instr.mapUpdate];simp only[Sem.run_bind,run_underlying Tryz.underlying156,MapKept.run_getObj_map b,Result.andThen,c,a,MapKept.run_setObj_map _ b];rfl
def F7(w:World)(s q:Int)(d:w.heap[mb]?=some (.map es clk))(h:dX es clk l)(i:l.Pairwise fun x y=>gL x.1.a x.1.seq y.1=false)(e:x∈l)(m:gL s q x.1=true)(f:TypeId) :
 ∃j,l[j]?=some x/\(Builtin.delete_ #[156,186] f #[.map (some mb),bQ s q]).run prog w=.ok (.tuple #[]) (setBlock w mb (.map (es.eraseIdxIfInBounds j) clk)):=by
 have a:=Ah w s q h;obtain⟨j,b,g⟩:=ni e m i;rw[g] at a;refine⟨j,b,?_⟩;have c:=fun k=>mi w k s q;generalize bQ s q=n at a c ⊢;rw[Builtin.delete_];simp only[Sem.run_bind,run_underlying Tryz.underlying156,MapKept.run_getObj_map d,Result.andThen,Sem.run_pure,c,a,MapKept.run_setObj_map _ d,ya7,AH,List.getElem?_cons_succ,yS];rfl
def dX.put(h:dX es clk l)(m:Codec.Msg)(d:Value):dX (es.push { key:=bQ m.a m.seq,val:=aU m d,born:=clk }) (clk+1) (l++[(m,d)]):=by
 refine⟨by simp[h.key],by simp[h.val],?_,fun e c=>?_⟩
 ·rw[Array.toList_push,y8,GZ];refine⟨h.born,ς,?_⟩;intro a g b f;obtain⟨e,c,rfl⟩:=yW.1 g;simp at f;have:=h.b e c;omega
 ·simp only[Array.toList_push,yz,yu] at c;rcases c with c|rfl
  ·exact Nat.lt_succ_of_lt (h.b e c)
  ·exact LO _
def dX.a(h:dX es clk l):es.size=l.length:=by
 have:=congrArg List.length h.key;simpa using this
variable {kn:List (List Int)}{w w':World}{n kb:Nat}{rbs:List Nat}
structure Hd where
 a:Nat
 n:Nat
 m:Nat
 i:Bool
 out:Bool
 h:Bool
 d:Int
 b:Int
 g:Int
 f:Int
 o:Int
 p:Int
 k:Value
 e:Value
 j:Value
def Hd.c(h:Hd)(kv mv ev sv:Value):Array Value:=#[J h.a,J h.n,J h.m,.bool h.i,.bool h.out,.bool h.h,J h.d,J h.b,J h.g,J h.f,J h.o,J h.p,h.k,h.e,kv,mv,h.j,ev,sv]
structure cO (w:World) (n kb:Nat) (rbs:List Nat) (kn:List (List Int)):Prop where
 f:rbs.length=n
 a:kn.length=n
 d:rbs.Nodup
 c:af w kb 69 (rbs.map fun r=>Value.slice (some ⟨r,0,none⟩) n n).toArray
 b:∀(q r:Nat) (l:List Int),rbs[q]?=some r->kn[q]?=some l->l.length=n/\af w r 3 (ints l).toArray
def cO.e(h:cO w n kb rbs kn)(d:w'.heap[kb]?=w.heap[kb]?)(c:∀r∈rbs,w'.heap[r]?=w.heap[r]?):cO w' n kb rbs kn:=
 ⟨h.f,h.a,h.d,d.trans h.c,fun q r l a b=>⟨(h.b q r l a b).1,(c r (yy a)).trans (h.b q r l a b).2⟩⟩
def cO.h(h:cO w n kb rbs kn):kb<w/\∀r∈rbs,r<w:=by
 refine⟨h.c.f,fun r b=>?_⟩;obtain⟨q,a,rfl⟩:=y4 b;have:q<kn.length:=by rw[h.a,<-h.f];exact a
 exact(h.b q _ _ (yh a) (yh this)).2.f
def cO.g(h:cO w n kb rbs kn)(a:Below w w w'):cO w' n kb rbs kn:=
 h.e (a.block kb h.h.1) fun r b=>a.block r (h.h.2 r b)
def jc(set:Int)(q:Nat):Bool:=decide (set / 2 ^ q % 2=1)
def dz(members:Int)(kn:List (List Int))(s:Nat)(q:Int):Bool:=(List.range kn.length).all fun i=>!(jc members i && decide ((kn.getD i []).getD s 0<q))
def EC(n:Int):bits .and .i64 n 1=n % 2:=by
 have a:(BitVec.ofInt 64 1).toNat=2 ^ 1 - 1:=θ;have b:(BitVec.ofInt 64 n &&& BitVec.ofInt 64 1).toNat=(n % ((2 ^ 64:Nat):Int)).toNat % 2 ^ 1:=by
  rw[BitVec.toNat_and,BitVec.toNat_ofInt,a,Nat.and_two_pow_sub_one_eq_mod]
 show IntKind.i64.wrap ((BitVec.ofInt 64 n &&& BitVec.ofInt 64 1).toNat:Nat)=n % 2;rw[b,LX];omega
def gE(a:Int)(q:Nat)(w:World)(f:q<=63):Calls prog 173 #[J a,J q] w fun e d=>e=.returned (.bool (jc a q))/\d=w:=by
 have c:0<=q:=ω;have b:=EC;go_enter Tryz.func173,Tryz.ntmps173
 go_wp2
 go_ret;exact⟨aB (by unfold jc;rw[Bool.eq_iff_iff];simp),rfl⟩
def IP(b i:Nat)(h:Hd)(t k l:Value)(a:List Nat)(s:List (List Int))(w:World)(f:af w b 159 (h.c (sT i h.n h.n) t k l))(g:cO w h.n i a s)(r:Nat)(c:a[h.a]?=some r) :
 Calls prog 119 #[pT b 0] w fun e q=>e=.returned (sT r h.n h.n)/\∃m,q=w.drewN m:=by
 have v:h.a<h.n:=by rw[<-g.f];exact(ym.1 c).1
 have p:=f.a 0 _ rfl;have d:=f.a 14 _ rfl;have u:w.cell? (aT i h.a)=some (sT r h.n h.n):=g.c.a _ _ (by simp[c]);simp only[Hd.c,yf,yd,ye] at p d;have o:0<=(h.a:Int):=Int.natCast_nonneg _;have j:h.a<h.n:=ω;clear f g c;go_enter Tryz.func119,Tryz.ntmps119
 go_wp2
 go_quiet (fail)
 go_wp2
 go_ret;exact⟨rfl,_,rfl⟩
def jR(m:Codec.Msg)(b:Value)(w:World):Calls prog 139 #[aU m b] w fun e a=>e=.returned (bQ m.a m.seq)/\Below w w a:=by
 unfold aU bQ;go_enter Tryz.func139,Tryz.ntmps139
 go_wp2
 exact bodyPost_ret (by simp[results,Tryz.results139,go_sem]) rfl ⟨rfl,((yi _ _).alloc (yb _) _).alloc ς _⟩
def cO.j(h:cO w n kb rbs kn){k:Nat}(c:k<n):∃r,rbs[k]?=some r/\w.cell? (aT kb k)=some (sT r n n)/\∀s,s<n->w.cell? (aT r s)=some (J ((kn.getD k []).getD s 0)):=by
 have a:k<rbs.length:=by rw[h.f];exact c
 have b:k<kn.length:=by rw[h.a];exact c
 obtain⟨g,e⟩:=h.b k rbs[k] kn[k] (yh a) (yh b);refine⟨rbs[k],yh a,h.c.a _ _ (by simp[a]),fun s f=>e.a s _ ?_⟩;have d:s<kn[k].length:=by rw[g];exact f
 simp[ints,List.getD,List.getElem?_eq_getElem b,List.getElem?_eq_getElem d]
def nV{a:Int}{s:Nat}{q:Int}:dz a kn s q=true↔∀i,i<kn.length->(jc a i && decide ((kn.getD i []).getD s 0<q))=false:=by
 unfold dz;rw[y5];constructor
 ·intro h i b;have:=h i (by simpa using b);cases c:(jc a i && decide ((kn.getD i []).getD s 0<q))
  ·rfl
  ·rw[c] at this;cases this
 ·intro h i b;rw[h i (by simpa using b)];rfl
def kx(b z:Nat)(h:Hd)(V R S:Value)(y:List Nat)(g:List (List Int))(w:World)(t:af w b 159 (h.c (sT z h.n h.n) V R S))(v:cO w h.n z y g)(hn:h.n<=6)(s:Nat)(Q:s<h.n)(q:Int) :
 Calls prog 186 #[pT b 0,bQ s q] w fun e d=>e=.returned (.bool (dz h.b g s q))/\Below w w d:=by
 have I:Hid (∀d,Below w w d->d.cell? (aT b 7)=some (J h.b)/\d.cell? (aT b 14)=some (sT z h.n h.n)):=fun d l=>⟨(t.c l t.f).a 7 _ rfl,(t.c l t.f).a 14 _ rfl⟩;have W:Hid (∀d,Below w w d->cO d h.n z y g):=fun d l=>v.g l;have L:=v.a;have T:=v.f;clear t v;unfold bQ;obtain⟨O,D⟩:=I.out (w.alloc (.cells #[J s,J q] 186)) ((yi _ _).alloc (yb _) _);go_enter Tryz.func186,Tryz.ntmps186
 go_wp2_with fail
 go_loopw [12] (fun i wr=>∃k:Nat,k<=h.n/\i=J k/\(∀j,j<k->(jc _ j && decide ((g.getD j []).getD s 0<q))=false)/\Below (w.heap.size+1) _ wr) (fun i _=>h.n - (intOf i).toNat)
 case atStart=>exact⟨0,ω,rfl,ω,yi _ _⟩
 case round=>
  obtain⟨k,v,rfl,a,c⟩:=hrel;have l:=((yi _ _).alloc (yb _) _).trans (c.mono ω);obtain⟨O,D⟩:=I.out wr l;have G:=W.out wr l;have f:=(af.d w _ rfl 186 _).c c ω;have Z:=f.a 0 _ rfl;have d1:=f.a 1 _ rfl;by_cases A:k<h.n
  ·obtain⟨r,Y,ck,o⟩:=G.j A;have U:=o s Q;have H:k<h.n:=ω;have N:0<=s:=ω;have X:s<h.n:=ω;clear o G f;have u:Hid (∀{x:Bool},(jc h.b k && decide ((g.getD k []).getD s 0<q))=x->x=false->∀j,j<k+1->(jc h.b j && decide ((g.getD j []).getD s 0<q))=false):=fun {x} m P j E=>by
    rcases Kq.1 E with E|rfl
    ·exact a j E
    ·rw[m,P]
   cases p:jc _ k with
   | false =>
     rw[p] at u;clear a;go_wp2_with fail
     go_quiet ((go_at_call 173;exact Calls.quiet_of_same ((gE _ _ _ ω).mono (fun e d h=>by rw[p] at h;exact h))))
     go_wp2_with fail
     go_roundw
     case rel=>exact⟨k+1,ω,by go_num,u.out rfl rfl,below_drewN c _⟩
     case measure=>simp[intOf];omega
   | true =>
     rw[p] at u;have K:Hid ((g.getD k []).getD s 0<q->false=dz h.b g s q):=fun m=>by
      cases F:dz h.b g s q
      ·rfl
      ·have:=nV.1 F k ω;rw[p,decide_eq_true m] at this;cases this
     generalize (g.getD k []).getD s 0=x at u K U;clear a;by_cases m:x<q
     ·have hxd:decide (x<q)=true:=decide_eq_true m;go_wp2_with fail
      go_quiet ((go_at_call 173;exact Calls.quiet_of_same ((gE _ _ _ ω).mono (fun e d h=>by rw[p] at h;exact h))))
      go_wp2_with fail
      go_ret;exact⟨aB (K.out m),below_drewN l _⟩
     ·have hxd:decide (x<q)=false:=decide_eq_false m;go_wp2_with fail
      go_quiet ((go_at_call 173;exact Calls.quiet_of_same ((gE _ _ _ ω).mono (fun e d h=>by rw[p] at h;exact h))))
      go_wp2_with fail
      go_roundw
      case rel=>exact⟨k+1,ω,by go_num,u.out rfl (by simp[m]),below_drewN c _⟩
      case measure=>simp[intOf];omega
  ·have m:k=h.n:=ω;have M:¬(k:Int)<(h.n:Int):=ω;go_wp2_with fail
   go_ret;exact⟨aB (nV.2 (fun i hi=>a i ω)).symm,l⟩
variable {r:Nat}{seen:Array Nat}
structure cm (w:World) (mb r:Nat) (es:Array MapEntry) (clk:Nat) (seen:Array Nat):Prop where
 map:w.heap[mb]?=some (.map es clk)
 d:w.heap[r]?=some (.mapIter (some mb) clk seen clk)
 f:∀e∈es.toList,e.born<clk
 born:(es.toList.map (·.born)).Nodup
def cm.c{w w':World}(h:cm w mb r es clk seen)(a:Below w w w'):cm w' mb r es clk seen:=
 ⟨(a.block mb (yk.1 h.map).1).trans h.map,(a.block r (yk.1 h.d).1).trans h.d,h.f,h.born⟩
def eN(w:World)(mb r:Nat):Nat:=
 match w.heap[mb]?,w.heap[r]? with
 |some (.map es _),some (.mapIter _ _ seen _)=>(leftOf es seen).size
 |_,_=>0
def cm.b{w:World}(h:cm w mb r es clk seen):eN w mb r=(leftOf es seen).size:=by
 unfold YtoklolfaemhfnaaGreatDoor.eN;rw[h.map,h.d]
def iI{e:MapEntry}(a:e∈es.toList)(b:seen.contains e.born=false):(leftOf es (seen.push e.born)).size<(leftOf es seen).size:=by
 exact left_shrinks es seen e (by unfold leftOf;rw[Array.toList_filter,yM];exact⟨a,by rw[b];rfl⟩)
section
variable {P:Program}(w:World){ops:Array Oper}{rest:List Oper}{o:Oper}{a:Act}{Q:Exit->Act->World->Prop}
def fB(z:o.guard=none)(x:Operand)(s:o.op=Op.next x false)(d r:Nat)(p:a.eval x=pT r 0)(h:cm w d r es clk seen)
 (j:(leftOf es seen).size=0->wpList P ops Q rest (a.put o.dst (.tuple #[.bool false])) w)
 (g:∀(e:MapEntry) (k:World),e∈es.toList->seen.contains e.born=false->cm k d r es clk (seen.push e.born)->w.grownBy k (some r)->k.heap.size=w.heap.size->
  (Instr.entry (pT r 0)).run P k=.ok (.tuple #[e.key,e.val]) k->wpList P ops Q rest (a.put o.dst (.tuple #[.bool true,e.key,e.val])) k):wpList P ops Q (o::rest) a w:=by
 refine wpList_plain z fun B l=>?_;unfold Oper.wp;rcases run_next_at (P:=P) w o.type r d clk clk seen es clk h.d h.map h.f (yb _) with ⟨y,c⟩|⟨e,q,f,b,c⟩
 ·simp[execOp,s,p,c,Result.andThen];exact l _ _ (j y)
 ·simp[execOp,s,p,c,Result.andThen];unfold leftOf at q;rw[Array.toList_filter,yM] at q;have u:d≠r:=by
   rintro rfl;have:=h.map.symm.trans h.d;cases this
  have m:f.heap[r]?=some (.mapIter (some d) clk seen clk):=by rcases b with rfl|rfl <;> exact h.d
  have t:=(yk.1 m).1;have v:cm (setBlock f r (.mapIter (some d) clk (seen.push e.born) clk)) d r es clk (seen.push e.born):=by
   refine⟨?_,?_,h.f,h.born⟩
   ·show (f.heap.setIfInBounds r _)[d]?=_;rw[yP (fun e=>u e.symm)];rcases b with rfl|rfl <;> exact h.map
   ·show (f.heap.setIfInBounds r _)[r]?=_;rw[yR t]
  refine l _ _ (g e _ q.1 (by simpa using q.2) v ?_ ?_ (run_entry_at _ r d clk seen es clk e v.d v.map q.1 h.born))
  ·refine⟨?_,?_,?_,?_,fun i A n=>?_⟩
   ·rcases b with rfl|rfl <;> rfl
   ·rcases b with rfl|rfl <;> rfl
   ·rcases b with rfl|rfl <;> rfl
   ·show w.heap.size<=(f.heap.setIfInBounds r _).size;rcases b with rfl|rfl <;> simp
   ·show (f.heap.setIfInBounds r _)[i]?=_;rw[yP (fun e=>n (by rw[e]))];rcases b with rfl|rfl <;> rfl
  ·show (f.heap.setIfInBounds r _).size=_;rcases b with rfl|rfl <;> simp
def eO(i:o.guard=none)(m:Operand)(t k e:TypeId)(h:o.op=Op.range t m)(l:P.underlying t=some (.map k e))(n:a.eval m=.map (some mb))(g:w.heap[mb]?=some (.map es clk))(d:∀e∈es.toList,e.born<clk)(b:(es.toList.map (·.born)).Nodup)
 (j:cm (w.alloc (.mapIter (some mb) clk #[] clk)) mb w.heap.size es clk #[]->wpList P ops Q rest (a.put o.dst (pT w 0)) (w.alloc (.mapIter (some mb) clk #[] clk))):wpList P ops Q (o::rest) a w:=by
 refine wpList_plain i fun p f=>?_;unfold Oper.wp;have c:(Instr.range t (.map (some mb))).run P w=.ok (pT w 0) (w.alloc (.mapIter (some mb) clk #[] clk)):=by
  simp only[Instr.range,Sem.run_bind,run_underlying l,Result.andThen,MapKept.run_getObj_map g];rfl
 simp[execOp,h,n,c,Result.andThen];exact f _ _ (j ⟨by rw[yQ _ _ _ (yk.1 g).1];exact g,heap_alloc_new w _,d,b⟩)
end
section
abbrev aL:=List (Codec.Msg × Value)
variable {l lr:aL}{es:Array MapEntry}{clk i j mb:Nat}{seen:Array Nat}{e:MapEntry}{pd:Int->Int->Bool}{x:Codec.Msg × Value}{w:World}
def cV(l:aL):Prop:=l.Pairwise fun x y=>gL x.1.a x.1.seq y.1=false
def cV.b(h:cV l)(hi:l[i]?=some x)(hj:l[j]?=some x):i=j:=by
 obtain⟨h1,e1⟩:=ym.1 hi;obtain⟨h2,e2⟩:=ym.1 hj;rcases Ks i j with hlt|rfl|hlt
 ·have:=Lb.1 h i j h1 h2 hlt;rw[e1,e2] at this;simp[gL] at this
 ·rfl
 ·have:=Lb.1 h j i h2 h1 hlt;rw[e1,e2] at this;simp[gL] at this
def iK{α β:Type}(f:α->β):∀(l:List α) (i:Nat),(l.eraseIdx i).map f=(l.map f).eraseIdx i
 |[],_=>rfl
 |_::_,0=>rfl
 |x::l,i+1=>by simp[List.eraseIdx,iK f l i]
def rL{es:List MapEntry}(h:(es.map (·.born)).Nodup)(hi:i<es.length)(hj:j<es.length)(e:es[i].born=es[j].born):i=j:=by
 have hp:=Lb.1 h;rcases Ks i j with hlt|rfl|hlt
 ·exact absurd (by rw[Kw,Kw];exact e) (hp i j (by simpa using hi) (by simpa using hj) hlt)
 ·rfl
 ·exact absurd (by rw[Kw,Kw];exact e.symm) (hp j i (by simpa using hj) (by simpa using hi) hlt)
def dX.d(h:dX es clk l)(j:Nat):dX (es.eraseIdxIfInBounds j) clk (l.eraseIdx j):=by
 have e:(es.eraseIdxIfInBounds j).toList=es.toList.eraseIdx j:=ς;refine⟨by rw[e,iK,h.key,iK],by rw[e,iK,h.val,iK],?_,fun x hx=>h.b x ?_⟩
 ·rw[e];exact h.born.sublist ((I0 _ _).map _)
 ·rw[e] at hx;exact(I0 _ _).subset hx
def dX.at(h:dX es clk l)(he:es.toList[i]?=some e):∃x,l[i]?=some x/\e.key=bQ x.1.a x.1.seq/\e.val=aU x.1 x.2:=by
 have hk:=congrArg (fun z=>z[i]?) h.key;have hv:=congrArg (fun z=>z[i]?) h.val;simp only[yZ,he,yp] at hk hv;cases hx:l[i]? with
 |none=>rw[hx] at hk;cases hk
 | some x =>
   rw[hx] at hk hv;simp only[yp,yA] at hk hv;exact⟨x,rfl,hk,hv⟩
def oh:Value->Int × Int
 |.agg cs=>(intOf (cs.getD 0 (.bool false)),intOf (cs.getD 1 (.bool false)))
 |_=>(0,0)
def rW(s q:Int):oh (bQ s q)=(s,q):=rfl
structure nd (pd:Int->Int->Bool) (l:aL) (es:Array MapEntry) (clk:Nat) (seen:Array Nat) (lr:aL):Prop where
 b:dX es clk lr
 a:cV lr
 d:lr.Sublist l
 c:lr.filter (fun x=>!pd x.1.a x.1.seq)=l.filter (fun x=>!pd x.1.a x.1.seq)
 done:∀e∈es.toList,seen.contains e.born=true->pd (oh e.key).1 (oh e.key).2=false
def nd.g(h:nd pd l es clk seen lr)(h0:(leftOf es seen).size=0):dX es clk (l.filter fun x=>!pd x.1.a x.1.seq):=by
 have hall:∀e∈es.toList,seen.contains e.born=true:=by
  intro e he;cases hs:seen.contains e.born
  ·have:=iI he hs;omega
  ·rfl
 have:lr.filter (fun x=>!pd x.1.a x.1.seq)=lr:=by
  rw[List.filter_eq_self];intro x hx;obtain⟨i,hi,rfl⟩:=y4 hx;have hi':i<es.toList.length:=by have:=h.b.a;simp;omega
  obtain⟨y,hy,hk, -⟩:=h.b.at (yh hi');rw[yh hi] at hy;cases hy;have:=h.done _ (AF hi') (hall _ (AF hi'));rw[hk,rW] at this;rw[this];rfl
 rw[<-h.c,this];exact h.b
def nd.f(h:nd pd l es clk seen lr)(he:e∈es.toList)(hp:pd (oh e.key).1 (oh e.key).2=false):nd pd l es clk (seen.push e.born) lr:=by
 refine⟨h.b,h.a,h.d,h.c,fun x hx hs=>?_⟩;rw[Array.contains_push,Bool.or_eq_true,beq_iff_eq] at hs;rcases hs with hs|hs
 ·exact h.done x hx hs
 ·obtain⟨i,hi,rfl⟩:=y4 hx;obtain⟨j,hj,rfl⟩:=y4 he;have:i=j:=rL h.b.born hi hj hs;subst this;exact hp
def nd.go(h:nd pd l es clk seen lr)(he:es.toList[i]?=some e)(hx:lr[i]?=some x)(hp:pd x.1.a x.1.seq=true):nd pd l (es.eraseIdxIfInBounds i) clk (seen.push e.born) (lr.eraseIdx i):=by
 have et:(es.eraseIdxIfInBounds i).toList=es.toList.eraseIdx i:=ς;refine⟨h.b.d i,h.a.sublist (I0 _ _),(I0 _ _).trans h.d,?_,fun y hy hs=>?_⟩
 ·rw[<-h.c];obtain⟨hi,rfl⟩:=ym.1 hx;rw[List.eraseIdx_eq_take_drop_succ];conv=>rhs;rw[<-List.take_append_drop i lr,List.drop_eq_getElem_cons hi]
  rw[La,La,List.filter_cons,hp];rfl
 ·rw[et] at hy;rw[Array.contains_push,Bool.or_eq_true,beq_iff_eq] at hs;obtain⟨hi,rfl⟩:=ym.1 he;rw[List.mem_eraseIdx_iff_getElem?] at hy;obtain⟨j,hne,hy⟩:=hy;obtain⟨hj,rfl⟩:=ym.1 hy;rcases hs with hs|hs
  ·exact h.done _ (AF hj) hs
  ·exfalso
   exact hne (rL h.b.born hj hi hs)
def cm.a{r:Nat}(h:cm w mb r es clk seen)(j:Nat)(hne:r≠mb):cm (setBlock w mb (.map (es.eraseIdxIfInBounds j) clk)) mb r (es.eraseIdxIfInBounds j) clk seen:=by
 have et:(es.eraseIdxIfInBounds j).toList=es.toList.eraseIdx j:=ς;refine⟨?_,?_,fun e he=>h.f e ?_,?_⟩
 ·show (w.heap.setIfInBounds mb _)[mb]?=_;rw[yR (yk.1 h.map).1]
 ·show (w.heap.setIfInBounds mb _)[r]?=_;rw[yP (fun e=>hne e.symm)];exact h.d
 ·rw[et] at he;exact(I0 _ _).subset he
 ·rw[et];exact h.born.sublist ((I0 _ _).map _)
def ep{o':Obj}(_h:w.heap[mb]?=some o')(o:Obj):w.grownBy (setBlock w mb o) (some mb):=by
 refine⟨rfl,rfl,rfl,?_,fun k _ hne=>?_⟩
 ·show w.heap.size<=(w.heap.setIfInBounds mb _).size;simp
 ·show (w.heap.setIfInBounds mb _)[k]?=_;rw[yP (fun e=>hne (by rw[e]))]
def zj(es:Array MapEntry)(seen:Array Nat)(j:Nat):(leftOf (es.eraseIdxIfInBounds j) seen).size<=(leftOf es seen).size:=by
 have key:∀(xs:Array MapEntry),(leftOf xs seen).size=(xs.toList.filter fun e=>!seen.contains e.born).length:=fun xs=>by
  unfold leftOf;rw[<-Array.toList_filter,AG]
 rw[key,key];have et:(es.eraseIdxIfInBounds j).toList=es.toList.eraseIdx j:=ς;rw[et];exact((I0 _ _).filter _).length_le
def qI(g:Nat)(cb:Array Value)(eg:∀args w,(callFunc g args).run prog w=.ok (.enter g args) w)(pd:Int->Int->Bool)(mb:Nat)(es:Array MapEntry)(clk:Nat)(l:aL)(w:World)(hb:w.heap[mb]?=some (.map es clk))(hM:dX es clk l)(hd:cV l)(hsl:∀x∈l,∃ao n c,x.2=.slice ao n c)
 (hdel:∀(W:World) (x:Codec.Msg × Value),x∈l->w.grownBy W (some mb)->Calls prog g (#[bQ x.1.a x.1.seq,aU x.1 x.2]++cb) W fun e w'=>e=.returned (.bool (pd x.1.a x.1.seq))/\Below W W w') :
 Calls prog 184 #[.map (some mb),.func (.func g) #[] cb] w fun e w'=>e=.returned (.tuple #[])/\w.grownBy w' (some mb)/\∃es',w'.heap[mb]?=some (.map es' clk)/\dX es' clk (l.filter fun x=>!pd x.1.a x.1.seq):=by
 have HD:=ah hdel;clear hdel;have hmb:mb<w:=(yk.1 hb).1;go_enter Tryz.func184,Tryz.ntmps184
 go_wp2_with (at_range;refine eO _ rfl _ 156 186 179 rfl Tryz.underlying156 rfl hb hM.b hM.born ?_;intro hR0)
 go_frame
 go_loopw [8] (fun _ wr=>∃seen esr lr,cm wr mb w.heap.size esr clk seen/\nd pd l esr clk seen lr/\w.grownBy wr (some mb)) (fun _ wr=>eN wr mb w.heap.size)
 case atStart=>exact⟨#[],es,l,hR0,⟨hM,hd,List.Sublist.refl _,rfl,fun e _ h=>by simp at h⟩,⟨rfl,rfl,rfl,ς,fun k hk _=>yQ _ _ _ hk⟩⟩
 case round=>
  obtain⟨seen,esr,lr,hR,hS,hG⟩:=hrel;have hms:=hR.b;clear hR0 hb hM hd;go_wp2_with (at_next;refine fB _ rfl _ rfl mb w.heap.size rfl hR ?_ ?_)
  ·intro h0;go_wp2_with fail
   go_end0
   exact⟨rfl,hG,esr,hR.map,hS.g (by simp[h0])⟩
  ·intro e w1 he hse hR1 hG1 hs1 hen;have he':e∈esr.toList:=by simpa using he
   have hse':seen.contains e.born=false:=by simpa using hse
   clear he hse;obtain⟨i,hi,rfl⟩:=y4 he';obtain⟨x,hx,hke,hve⟩:=hS.b.at (yh hi);rw[hke,hve] at hen ⊢;have hxl:=hS.d.subset (yy hx);obtain⟨m,tv⟩:=x;obtain⟨ao,tn,tc,rfl⟩:=hsl _ hxl;unfold bQ aU at hen ⊢;simp only at hen ⊢;go_wp2_with fail
   have hBa:Below wr w1 ((w1.alloc (.cells #[J m.a,J m.seq] 186)).alloc (.cells #[J m.a,J m.seq,.slice ao tn tc,.string m.b] 179)):=((yi _ _).alloc ω _).alloc (by simp;omega) _;have hGa:w.grownBy w1 (some mb):=hG.andThen hG1 (fun j hj=>by cases hj;exact .inl (yb _));have hGW:=hGa.andThen (row':=none) ⟨hBa.os,hBa.tape,hBa.output,hBa.size,fun k hk _=>hBa.block k ω⟩ (fun j hj=>by cases hj);refine(HD.out _ (m,.slice ao tn tc) hxl hGW).mono ?_;rintro e w2 ⟨rfl,hb2⟩;have hB2:Below w1 w1 w2:=(hBa.mono ω).trans (hb2.mono (by simp;omega));have hR2:=hR1.c hB2;have hG2:=hGa.andThen (row':=none) ⟨hB2.os,hB2.tape,hB2.output,hB2.size,fun k hk _=>hB2.block k hk⟩ (fun j hj=>by cases hj);have hbox:af w2 wr.heap.size 186 #[J m.a,J m.seq]:=((af.d w1 wr.heap.size hs1 186 _).g _).c hb2 (by simp;omega);have d0:w2.cell? (aT wr 0)=some (J m.a):=hbox.a 0 _ rfl;have d1:w2.cell? (aT wr 1)=some (J m.seq):=hbox.a 1 _ rfl;clear hbox hb2 hBa hGW;cases hp:pd m.a m.seq with
   | false =>
     go_wp2_with fail
     go_roundw
     case rel=>exact⟨_,esr,lr,hR2,hS.f he' (by rw[hke,rW];exact hp),hG2⟩
     case measure=>rw[hR2.b,hms];exact iI he' hse'
   | true =>
     obtain⟨j,hj,hrun⟩:=F7 w2 m.a m.seq hR2.map hS.b hS.a (yy hx) (by simp[gL]) 0;have hji:=hS.a.b hj hx;subst hji;unfold bQ at hrun;go_wp2_with fail
     have hne:w.heap.size≠mb:=ω;have hR3:=hR2.a j hne;have hS3:=hS.go (yh hi) hx hp;go_roundw
     case rel=>exact⟨_,_,_,hR3,hS3,hG2.andThen (ep hR2.map _) (fun j hj=>by cases hj;exact .inr rfl)⟩
     case measure=>rw[hR3.b,hms];exact Nat.lt_of_le_of_lt (zj esr _ j) (iI he' hse')
end
end
section
open Go.RowKit
open Go.ChangeMaps (setBlock)
variable {n sz g r:Nat}{v:Value}{xs:List Value}
section
def Ev.f(e:Ev):List Value:=[J e.b,J e.a,J e.d,J e.seq,J e.c,.string e.e]
def az(l:List Ev):List Value:=l.flatMap Ev.f
abbrev bC:=Int × ByteArray
def ar(l:List bC):List Value:=l.flatMap fun p=>[J p.1,.string p.2]
structure eB (w:World) (F:Nat->Prop) (e:TypeId) (sz:Nat) (v:Value) (n:Nat) (xs:List Value):Prop where
 d:w.ownsRow 0 e sz v n xs
 c:∀g,v.ownBlock=some g->F g
def eB.k{w:World}{F:Nat->Prop}{e:TypeId}(h:eB w F e sz v n xs)(a:v.ownBlock=some g):g<w:=(h.d.lt g a).2
def eB.i{w w':World}{F:Nat->Prop}{e:TypeId}(h:eB w F e sz v n xs)(a:∀g,v.ownBlock=some g->w'.heap[g]?=w.heap[g]?):eB w' F e sz v n xs:=⟨aj h.d a,h.c⟩
def eB.m{w:World}{F:Nat->Prop}{e:TypeId}(h:eB w F e sz v n xs)(b:v.ownBlock=some g):∃a,w.heap[g]?=some (.cells a e (0,0)):=by
 rcases h.d.2 with ⟨d, -⟩|⟨i,c,a,rfl, -,f, -⟩
 ·rw[d] at b;cases b
 ·cases b;exact⟨a,f⟩
structure PA (w:World) (F:Nat->Prop) (b:Nat) (h:Hd) (kn:List (List Int)) (l:aL) (evs:List Ev) (snt:List bC) (kb mb:Nat) (rbs:List Nat) (es:Array MapEntry) (clk:Nat) (ev sv:Value):Prop where
 a:af w b 159 (h.c (sT kb h.n h.n) (.map (some mb)) ev sv)
 e:cO w h.n kb rbs kn
 map:w.heap[mb]?=some (.map es clk)
 o:dX es clk l
 i:cV l
 d:∀x∈l,eB w F 3 1 x.2 x.1.c.length (ints x.1.c)/\∀g,x.2.ownBlock=some g->g ∉ rbs
 c:eB w F 64 6 ev evs.length (az evs)
 f:eB w F 111 2 sv snt.length (ar snt)
 t:F b
 z:F kb
 s:F mb
 fr:∀r∈rbs,F r
variable {w w':World}{F:Nat->Prop}{b:Nat}{h:Hd}{kn:List (List Int)}{l:aL}{evs:List Ev}{snt:List bC}{kb mb:Nat}{rbs:List Nat}{es:Array MapEntry}{clk:Nat}{ev sv:Value}
def PA.q(p:PA w F b h kn l evs snt kb mb rbs es clk ev sv):mb<w:=(yk.1 p.map).1
def PA.u(p:PA w F b h kn l evs snt kb mb rbs es clk ev sv)(hk:∀x,F x->x<w.heap.size->w'.heap[x]?=w.heap[x]?):PA w' F b h kn l evs snt kb mb rbs es clk ev sv where
 a:=(hk b p.t p.a.f).trans p.a
 e:=p.e.e (hk kb p.z p.e.h.1) fun r hr=>hk r (p.fr r hr) (p.e.h.2 r hr)
 map:=(hk mb p.s p.q).trans p.map
 o:=p.o
 i:=p.i
 d:=fun x hx=>⟨(p.d x hx).1.i fun g hg=>hk g ((p.d x hx).1.c g hg) ((p.d x hx).1.k hg),(p.d x hx).2⟩
 c:=p.c.i fun g hg=>hk g (p.c.c g hg) (p.c.k hg)
 f:=p.f.i fun g hg=>hk g (p.f.c g hg) (p.f.k hg)
 t:=p.t
 z:=p.z
 s:=p.s
 fr:=p.fr
def PA.j(p:PA w F b h kn l evs snt kb mb rbs es clk ev sv)(c:Below w w w'):PA w' F b h kn l evs snt kb mb rbs es clk ev sv:=p.u fun x _ a=>c.block x a
def PA.k(p:PA w F b h kn l evs snt kb mb rbs es clk ev sv){F':Nat->Prop}(a:∀x,F x->F' x):PA w F' b h kn l evs snt kb mb rbs es clk ev sv:=
 ⟨p.a,p.e,p.map,p.o,p.i,fun x d=>⟨⟨(p.d x d).1.d,fun g c=>a g ((p.d x d).1.c g c)⟩,(p.d x d).2⟩,⟨p.c.d,fun g c=>a g (p.c.c g c)⟩,⟨p.f.d,fun g c=>a g (p.f.c g c)⟩,a b p.t,a kb p.z,a mb p.s,fun r e=>a r (p.fr r e)⟩
def cq{w:World}{f:Nat}{c:Array Value}{e:TypeId}{i:Nat × Nat}{j:Array MapEntry}{a:Nat}(k:w.heap[g]?=some (.cells c e i))(d:w.heap[f]?=some (.map j a)):g≠f:=by
 rintro rfl;rw[k] at d;cases d
def PA.nb(p:PA w F b h kn l evs snt kb mb rbs es clk ev sv):b≠mb:=cq p.a p.map
def PA.nk(p:PA w F b h kn l evs snt kb mb rbs es clk ev sv):kb≠mb:=cq p.e.c p.map
def cO.k(k:cO w n kb rbs kn)(d:r∈rbs):∃a,w.heap[r]?=some (.cells a 3 (0,0)):=by
 obtain⟨q,c,rfl⟩:=y4 d;have:q<kn.length:=by rw[k.a,<-k.f];exact c
 exact⟨_,(k.b q _ _ (yh c) (yh this)).2⟩
def PA.nr(p:PA w F b h kn l evs snt kb mb rbs es clk ev sv)(a:r∈rbs):r≠mb:=by
 obtain⟨c,d⟩:=p.e.k a;exact cq d p.map
def PA.y(p:PA w F b h kn l evs snt kb mb rbs es clk ev sv)(k:w.grownBy w' (some mb)){f:Array MapEntry}{c:Nat}{j:aL}(C:w'.heap[mb]?=some (.map f c))(o:dX f c j)(s:cV j)(z:∀x∈j,x ∉ l->eB w' F 3 1 x.2 x.1.c.length (ints x.1.c)/\∀g,x.2.ownBlock=some g->g ∉ rbs):PA w' F b h kn j evs snt kb mb rbs f c ev sv:=by
 have d:∀x,x<w.heap.size->x≠mb->w'.heap[x]?=w.heap[x]?:=fun x q m=>k.block x q (fun e=>m (by injection e));have a:∀{e:TypeId}{u:Nat}{v:Value}{n:Nat}{t:List Value},eB w F e u v n t->eB w' F e u v n t:=fun r=>r.i fun g k=>by
  obtain⟨B,A⟩:=r.m k;exact d g (r.k k) (cq A p.map)
 refine⟨(d b p.a.f p.nb).trans p.a,p.e.e (d kb p.e.h.1 p.nk) fun r y=>d r (p.e.h.2 r y) (p.nr y),C,o,s,fun x q=>?_,a p.c,a p.f,p.t,p.z,p.s,p.fr⟩;by_cases i:x∈l
 ·exact⟨a (p.d x i).1,(p.d x i).2⟩
 ·exact z x q i
end
variable {w w':World}{F:Nat->Prop}{b:Nat}{h:Hd}{kn:List (List Int)}{l:aL}{evs:List Ev}{snt:List bC}{kb mb:Nat}{rbs:List Nat}{es:Array MapEntry}{clk:Nat}{ev sv:Value}
def x6(p:Value)(d:Nat)(m:Codec.Msg)(o:Option Addr)(r t:Nat)(w:World)(q:w.cell? (aT d 0)=some (pT b 0))(g:d<w)(j:af w b 159 (h.c (sT kb h.n h.n) p ev sv))(k:cO w h.n kb rbs kn)(v:h.n<=6)(s:Nat)(A:s<h.n)(c:m.a=s) :
 Calls prog 185 #[bQ m.a m.seq,aU m (.slice o r t),pT d 0] w fun e x=>e=.returned (.bool (dz h.b kn s m.seq))/\Below w w x:=by
 obtain⟨D,f,C,y⟩:=m;simp only at c;subst c;simp only;have a:Hid (Below _ w ((w.alloc (.cells #[J s,J f] 186)).alloc (.cells #[J s,J f,.slice o r t,.string y] 179))):=((yi _ _).alloc (yb _) _).alloc ς _;have u:=ah (j.c a.out j.f);have z:=ah (k.g a.out);have B:=(yq (a.out.block d g)).trans q;clear j k q;unfold bQ aU;go_enter Tryz.func185,Tryz.ntmps185
 go_wp2_with fail
 refine(kx b kb h p ev sv rbs kn _ u.out z.out v s A f).mono ?_;rintro e E ⟨rfl,i⟩;go_wp2_with fail
 go_ret;exact⟨rfl,a.out.trans (i.mono (by simp;omega))⟩
def DC(n:Nat)(l:aL):Prop:=∀x∈l,∃s:Nat,s<n/\x.1.a=s
def aM(members:Int)(kn:List (List Int))(m:Codec.Msg):Bool:=!dz members kn m.a.toNat m.seq
def eB.a{w:World}{F:Nat->Prop}{e:TypeId}{i:Nat}{v:Value}{n:Nat}{f:List Value}(r:eB w F e i v n f):∃j m c,v=.slice j m c:=by
 rcases r.d.2 with ⟨a, -⟩|⟨k,d,g,a, -⟩
 ·exact⟨_,_,_,a⟩
 ·exact⟨_,_,_,a⟩
def km(p:PA w F b h kn l evs snt kb mb rbs es clk ev sv)(H:h.n<=6)(M:DC h.n l) :
 Calls prog 140 #[pT b 0] w fun e D=>e=.returned (.tuple #[])/\w.grownBy D (some mb)/\∃i,PA D F b h kn (l.filter fun x=>aM h.b kn x.1) evs snt kb mb rbs i clk ev sv:=by
 have a:Below _ w (w.alloc (.cells #[pT b 0] 102)):=(yi _ _).alloc (yb _) _;have C:=p.q;have d:=ah ((a.block mb C).trans p.map);have G:=(p.a.c a p.a.f).a 15 _ rfl;have L:=enters_of Tryz.func185 κ rfl;have I:=ah (qI 185 #[pT w 0] L (fun s q=>dz h.b kn s.toNat q) mb es clk l _ d.out p.o p.i (fun x f=>(p.d x f).1.a) (fun W x f o=>by
  obtain⟨s,O,m⟩:=M x f;obtain⟨N,P,Q,K⟩:=(p.d x f).1.a;have j:∀x,x<w.heap.size+1->x≠mb->W.heap[x]?=(w.alloc (.cells #[pT b 0] 102)).heap[x]?:=fun x f g=>o.block x (by simpa using f) (fun e=>g (by injection e));have v:af W b 159 _:=(j b (by have:=p.a.f;omega) p.nb).trans (p.a.c a p.a.f);have B:cO W h.n kb rbs kn:=(p.e.g a).e (j kb (by have:=p.e.h.1;omega) p.nk) (fun r E=>j r (by have:=p.e.h.2 r E;omega) (p.nr E));have y:W.cell? (aT w 0)=some (pT b 0):=(yq (a:=(aT w 0)) (j w.heap.size ω ω)).trans ((af.d w w.heap.size rfl 102 _).a 0 _ rfl);have A:w.heap.size<W:=by have:=o.size;simp at this;omega
  have:=x6 (kb:=kb) (rbs:=rbs) (kn:=kn) (h:=h) (ev:=ev) (sv:=sv) (.map (some mb)) w.heap.size x.1 N P Q W y A v B H s O m;rw[K];simp only[m,CM] at this ⊢;exact this))
 clear d;go_enter Tryz.func140,Tryz.ntmps140
 go_wp2_with (go_at_call 184;refine I.out.mono ?_;rintro e R ⟨rfl,c,i,z,t⟩)
 go_end0
 have o:w.grownBy R (some mb):=⟨c.os.trans a.os,c.tape.trans a.tape,c.output.trans a.output,yr a.size c.size,fun k j g=>(c.block k (by simp;omega) g).trans (a.block k j)⟩;exact⟨rfl,o,i,p.y o z t (p.i.sublist List.filter_sublist) (fun x f u=>absurd (yM.1 f).1 u)⟩
variable {x:Nat}{ms:List Codec.Msg}{a:World}{F':Nat->Prop}{cs:Array Value}
section
structure cW (F:Nat->Prop) (w w':World):Prop where
 os:w'.os=w.os
 tape:w'.tape=w.tape
 output:w'.output=w.output
 size:w.heap.size<=w'
 block:∀k,k<w.heap.size->¬F k->w'.heap[k]?=w.heap[k]?
def aY(F:Nat->Prop)(w:World):Nat->Prop:=fun x=>F x\/w.heap.size<=x
def aY.c{F:Nat->Prop}{w:World}:∀x,F x->aY F w x:=fun _ h=>.inl h
def cW.j(F:Nat->Prop)(w:World):cW F w w:=⟨rfl,rfl,rfl,yb _,fun _ _ _=>rfl⟩
def cW.c{F:Nat->Prop}{b c:World}(h:cW F a b)(k:cW (aY F a) b c):cW F a c:=
 ⟨k.os.trans h.os,k.tape.trans h.tape,k.output.trans h.output,yr h.size k.size,fun x d f=>(k.block x (yg d h.size) (fun e=>e.elim f (fun e=>by omega))).trans (h.block x d f)⟩
def cW.e{F:Nat->Prop}{b:World}(h:cW F a b)(d:∀x,x<a.heap.size->F x->F' x):cW F' a b:=⟨h.os,h.tape,h.output,h.size,fun x c f=>h.block x c fun e=>f (d x c e)⟩
def cW.d{F:Nat->Prop}{w b:World}(h:Below w w b):cW F w b:=⟨h.os,h.tape,h.output,h.size,fun k c _=>h.block k c⟩
def cW.f{F:Nat->Prop}{w b:World}{g:Option Nat}(h:w.grownBy b g)(d:∀x,g=some x->F x):cW F w b:=⟨h.os,h.tape,h.output,h.size,fun k c f=>h.block k c fun e=>f (d k e.symm)⟩
def cW.i{F:Nat->Prop}{w b:World}{X:Nat}(h:ej X w b)(c:F X):cW F w b:=⟨h.os,h.tape,h.output,by rw[h.size];exact yb _,fun k _ d=>h.block k fun e=>d (e▸c)⟩
variable {w w':World}{F:Nat->Prop}{b:Nat}{h:Hd}{kn:List (List Int)}{l:aL}{evs:List Ev}{snt:List bC}{kb mb:Nat}{rbs:List Nat}{es:Array MapEntry}{clk:Nat}{ev sv:Value}
def eZ{w:World}{y:Nat}{f:Array Value}{t e:TypeId}(h:w.heap[x]?=some (.cells cs t (0,0)))(d:w.heap[y]?=some (.cells f e (0,0)))(c:t≠e):x≠y:=fU h d c
def eB.o{e:TypeId}(r:eB w F e sz v n xs)(j:v.ownBlock=some g){t:TypeId}(d:w.heap[x]?=some (.cells cs t (0,0)))(c:e≠t):g≠x:=by
 obtain⟨f,i⟩:=r.m j;exact eZ i d c
def PA.a0(p:PA w F b h kn l evs snt kb mb rbs es clk ev sv){q r:Nat}(y:rbs[q]?=some r){row':List Int}(H:row'.length=h.n)(m:∀x,x<w.heap.size->x≠r->w'.heap[x]?=w.heap[x]?)(L:af w' r 3 (ints row').toArray):PA w' F b h (kn.set q row') l evs snt kb mb rbs es clk ev sv:=by
 have k:=yy y;obtain⟨M,c⟩:=p.e.k k;have d:∀{e:TypeId}{C:Nat}{v:Value}{n:Nat}{A:List Value} (R:eB w F e C v n A),(∀g,v.ownBlock=some g->g≠r)->eB w' F e C v n A:=fun R j=>R.i fun g f=>m g (R.k f) (j g f);refine⟨(m b p.a.f (eZ p.a c θ)).trans p.a,?_,(m mb p.q (cq c p.map).symm).trans p.map,p.o,p.i,fun x u=>⟨d (p.d x u).1 fun g j e=>(p.d x u).2 g j (e▸k),(p.d x u).2⟩,d p.c fun g j=>p.c.o j c θ,d p.f fun g j=>p.f.o j c θ,p.t,p.z,p.s,p.fr⟩;have K:=p.e;refine⟨K.f,by simpa using K.a,K.d,(m kb K.h.1 (eZ K.c c θ)).trans K.c,fun B s E f i=>?_⟩;by_cases e:B=q
 ·subst e;rw[y] at f;injection f with f;subst f;rw[List.getElem?_set] at i;simp only[if_true] at i;split at i
  ·injection i with i;subst i;exact⟨H,L⟩
  ·cases i
 ·rw[LM (fun z=>e z.symm)] at i;have t:s≠r:=fun z=>by
   subst z;have o:=ym.1 f;have G:=ym.1 y;obtain⟨O,I⟩:=o;obtain⟨N,D⟩:=G;exact e ((List.getElem_inj K.d).1 (I.trans D.symm))
  have o:=K.b B s E f i;exact⟨o.1,(m s (K.h.2 s (yy f)) t).trans o.2⟩
def PA.p(p:PA w F b h kn l evs snt kb mb rbs es clk ev sv){h':Hd}{m o:Value}{j:List Ev}{i:List bC}(q:h'.n=h.n)(G:af w' b 159 (h'.c (sT kb h.n h.n) (.map (some mb)) m o))
 (u:∀x,x<w.heap.size->x≠b->(∀d,w.heap[x]?≠some (.cells d 64 (0,0)))->(∀d,w.heap[x]?≠some (.cells d 111 (0,0)))->w'.heap[x]?=w.heap[x]?)
 (B:eB w' F 64 6 m j.length (az j)) (C:eB w' F 111 2 o i.length (ar i)):PA w' F b h' kn l j i kb mb rbs es clk m o:=by
 have f:∀{x:Nat}{s:Array Value}{t:TypeId},w.heap[x]?=some (.cells s t (0,0))->t≠159->t≠64->t≠111->w'.heap[x]?=w.heap[x]?:=fun {x s t} k y E z=>by
  refine u x (yk.1 k).1 (fun e=>?_) (fun d c=>?_) (fun d c=>?_)
  ·subst e;exact eZ k p.a y rfl
  ·rw[k] at c;injection c with c;injection c with _ c;exact E c
  ·rw[k] at c;injection c with c;injection c with _ c;exact z c
 have K:=p.e;refine⟨by rw[q];exact G,?_,?_,p.o,p.i,fun x k=>⟨(p.d x k).1.i fun g D=>?_,(p.d x k).2⟩,B,C,p.t,p.z,p.s,p.fr⟩
 ·rw[q];exact K.e (f K.c θ θ θ) fun r A=>by
   obtain⟨d,c⟩:=K.k A;exact f c θ θ θ
 ·refine(u mb p.q p.nb.symm (fun d c=>?_) (fun d c=>?_)).trans p.map <;> (rw[p.map] at c;cases c)
 ·obtain⟨d,c⟩:=(p.d x k).1.m D;exact f c θ θ θ
def PX(w:World)(F:Nat->Prop)(b:Nat)(h:Hd)(kn:List (List Int))(ms:List Codec.Msg)(evs:List Ev)(snt:List bC):Prop:=
 ∃l:aL,l.map Prod.fst=ms/\∃(kb mb:Nat) (rbs:List Nat) (es:Array MapEntry) (clk:Nat) (ev sv:Value),PA w F b h kn l evs snt kb mb rbs es clk ev sv
def PA.px(p:PA w F b h kn l evs snt kb mb rbs es clk ev sv):PX w F b h kn (l.map Prod.fst) evs snt:=⟨l,rfl,kb,mb,rbs,es,clk,ev,sv,p⟩
def PX.d(p:PX w F b h kn ms evs snt)(c:∀x,F x->F' x):PX w F' b h kn ms evs snt:=by
 obtain⟨l,rfl,m,f,e,i,d,j,k,q⟩:=p;exact(q.k c).px
def PX.c(p:PX w F b h kn ms evs snt)(d:∀x,F x->x<w.heap.size->w'.heap[x]?=w.heap[x]?):PX w' F b h kn ms evs snt:=by
 obtain⟨l,rfl,m,f,e,i,c,j,k,q⟩:=p;exact(q.u d).px
def PX.e(p:PX w F b h kn ms evs snt)(d:Below w w w'):PX w' F b h kn ms evs snt:=p.c fun x _ c=>d.block x c
end
variable {s q:Nat}
def fy(a row:List Int):List Int:=(List.range a.length).map fun s=>max (a.getD s 0) (row.getD s 0)
def qN(a b:List Int):(fy a b).length=a.length:=by simp[fy]
end
section
open Go.RowKit
variable {k:Nat}{a:List Int}
section
def bW(k:Nat)(a row:List Int):List Int:=(List.range a.length).map fun s=>if s<k then max (a.getD s 0) (row.getD s 0) else a.getD s 0
def qO(k:Nat)(a b:List Int):(bW k a b).length=a.length:=by simp[bW]
def wj(a b:List Int):bW 0 a b=a:=by
 refine Lj (by simp[bW]) fun i d c=>?_;simp[bW,c]
def wh(a b:List Int):bW a.length a b=fy a b:=by
 refine Lj (by simp[bW,fy]) fun i c d=>?_;have:i<a.length:=by simpa[bW] using c
 simp[bW,fy,this]
def zm(b:List Int):(bW k a b).set k (max (a.getD k 0) (b.getD k 0))=bW (k+1) a b:=by
 refine Lj (by simp[bW]) fun i g d=>?_;rw[List.getElem_set];have f:i<a.length:=by simpa[bW] using d
 simp only[bW,Kw,List.getElem_range];by_cases e:k=i
 ·subst e;simp
 ·rw[if_neg e];by_cases c:i<k
  ·rw[if_pos c,if_pos ω]
  ·rw[if_neg c,if_neg ω]
def Cg{b:List Int}:(bW k a b).getD k 0=a.getD k 0:=by
 by_cases c:k<a.length
 ·simp[bW,c]
 ·simp[bW,c]
def vT(l:List Int)(k:Nat)(x:Int):(ints l).toArray.setIfInBounds k (J x)=(ints (l.set k x)).toArray:=by simp[ints,List.map_set]
def ie{l:List Int}(b:k<l.length):(ints l).toArray[k]?=some (J (l.getD k 0)):=by simp[ints,b]
def ej.e{X:Nat}{w b:World}(h:ej X w b):ej X w b.drew:=⟨h.os,h.tape,h.output,h.size,h.block⟩
def IE(x y:Int):max x y=if x<y then y else x:=by split <;> omega
variable {w w':World}{F:Nat->Prop}{b:Nat}{h:Hd}{kn:List (List Int)}{l:aL}{evs:List Ev}{snt:List bC}{kb mb:Nat}{rbs:List Nat}{es:Array MapEntry}{clk:Nat}{ev sv:Value}
def PA.m(p:PA w F b h kn l evs snt kb mb rbs es clk ev sv){q:Nat}(c:q<h.n):∃r,rbs[q]?=some r/\af w r 3 (ints (kn.getD q [])).toArray/\(kn.getD q []).length=h.n/\w.cell? (aT kb q)=some (sT r h.n h.n):=by
 obtain⟨r,d,f, -⟩:=p.e.j c;have e:q<kn.length:=by rw[p.e.a];exact c
 have:=p.e.b q r (kn.getD q []) d (by simp[e]);exact⟨r,d,this.2,this.1,f⟩
def EH(p:PA w F b h kn l evs snt kb mb rbs es clk ev sv)(hn:h.n<=6)(hl:DC h.n l)(q:Nat)(hq:q<h.n)(row:List Int)(g o T:Nat)(hg:g ∉ rbs)(A:∀j,j<h.n->w.cell? ⟨g,o+j,none⟩=some (J (row.getD j 0))) :
 Calls prog 253 #[pT b 0,J q,.slice (some ⟨g,o,none⟩) h.n T] w fun e t=>e=.returned (.tuple #[])/\cW (fun x=>x=mb\/x∈rbs) w t/\∃s,PA t F b h (kn.set q (fy (kn.getD q []) row)) (l.filter fun x=>aM h.b (kn.set q (fy (kn.getD q []) row)) x.1) evs snt kb mb rbs s clk ev sv:=by
 obtain⟨r,W,z,E,H⟩:=p.m hq;have G:=yy W;have R:g≠r:=fun e=>hg (e▸G);have Q:=eZ p.e.c z θ;have I:=eZ p.a z θ;have v:=p.a.a 14 _ rfl;have HF:Hid (∀k wr,k<=h.n->ej r w wr->af wr r 3 (ints (bW k (kn.getD q []) row)).toArray->wr.cell? (aT b 14)=some (sT kb h.n h.n)/\wr.cell? (aT kb q)=some (sT r h.n h.n)/\(k<h.n->wr.cell? ⟨g,o+k,none⟩=some (J (row.getD k 0))/\wr.cell? (aT r k)=some (J ((kn.getD q []).getD k 0)))/\wr.frozen? (aT r k)=false):=fun k wr S f m=>
  ⟨(yq (a:=(aT b 14)) (f.block b I)).trans v,(yq (a:=(aT kb q)) (f.block kb Q)).trans H,fun O=>⟨(yq (a:=⟨g,o+k,none⟩) (f.block g R)).trans (A k O),m.a k _ (by rw[ie (by rw[qO];omega),Cg])⟩,m.b k⟩
 have HS:Hid (∀k wr,k<h.n->ej r w wr->af wr r 3 (ints (bW k (kn.getD q []) row)).toArray->af (wr.setCell ⟨r,k,none⟩ (J (max ((kn.getD q []).getD k 0) (row.getD k 0)))) r 3 (ints (bW (k+1) (kn.getD q []) row)).toArray):=fun k wr S f m=>by
  have:=m.e k (J (max ((kn.getD q []).getD k 0) (row.getD k 0)));rw[vT,zm] at this;exact this
 have HE:Hid (∀wr,ej r w wr->af wr r 3 (ints (bW h.n (kn.getD q []) row)).toArray->Calls prog 140 #[pT b 0] wr fun e t=>e=.returned (.tuple #[])/\cW (fun x=>x=mb\/x∈rbs) w t/\∃s,PA t F b h (kn.set q (fy (kn.getD q []) row)) (l.filter fun x=>aM h.b (kn.set q (fy (kn.getD q []) row)) x.1) evs snt kb mb rbs s clk ev sv):=fun wr f m=>by
  rw[show h.n=(kn.getD q []).length from E.symm,wh] at m;have p':=p.a0 (w':=wr) W (row':=fy (kn.getD q []) row) (by rw[qN];exact E) (fun x _ B=>f.block x B) m;refine(km p' hn hl).mono ?_;rintro e w2 ⟨rfl,hG,s,p2⟩;exact⟨rfl,(cW.i (F:=fun x=>x=mb\/x∈rbs) f (.inr G)).c ((cW.f hG (fun x B=>by injection B with B;subst B;exact .inl (.inl rfl)))),s,p2⟩
 have M:Hid (af w r 3 (ints (bW 0 (kn.getD q []) row)).toArray):=by rw[Hid,wj];exact z
 have a3:0<=q:=ω;have a1:q<h.n:=ω;clear z A v H p hl;go_enter Tryz.func253,Tryz.ntmps253
 go_wp2_with fail
 go_loopw [10] (fun i wr=>∃k:Nat,k<=h.n/\i=J k/\ej r w wr/\af wr r 3 (ints (bW k (kn.getD q []) row)).toArray) (fun i _=>h.n - (intOf i).toNat)
 case atStart=>exact⟨0,ω,rfl,ej.d _ _,M.out⟩
 case round=>
  obtain⟨k,S,rfl,f,m⟩:=hrel;obtain⟨v,ck,D,cf⟩:=HF.out k wr S f m;by_cases C:k<h.n
  ·obtain⟨Y,Z⟩:=D C;have V:(k:Int)<(h.n:Int):=ω;have a2:(0:Int)<=(k:Int):=ω;have U:=HS.out k wr C f m;have N:=ah f;have u:=ah U;clear U f m D;generalize (kn.getD q []).getD k 0=x at Z u;generalize row.getD k 0=y at Y u;rw[IE] at u;go_wp2_with fail
   refine gl.b (fun t=>t.cell? (aT b 14)=some (sT kb h.n h.n)/\t.cell? (aT kb q)=some (sT r h.n h.n)/\t.cell? ⟨g,o+k,none⟩=some (J y)/\t.cell? (aT r k)=some (J x)) 21 rfl ⟨v,ck,Y,Z⟩ (fun P=>?_)
   (iterate 21 refine χ ?_)
   refine te 21 fun K X=>?_;go_simp;refine X.out _ _ (fun h=>absurd rfl h) (fun _=>?_);clear X K;try simp only[pU]
   refine gl.done κ ?_ _;go_wp2_with fail
   go_roundw
   case rel=>exact⟨k+1,ω,by go_num,(N.out.a _ _).e,u.out⟩
   case measure=>simp[intOf];omega
  ·have B:k=h.n:=ω;subst B;have a0:¬(h.n:Int)<(h.n:Int):=ω;have hC:=HE.out wr f m;go_wp2_with fail
   refine hC.mono ?_;rintro e w2 ⟨rfl,hc,L⟩;go_wp2_with fail
   go_end0
   exact⟨rfl,hc,L⟩
end
open Go.ChangeMaps (setBlock)
variable {w w':World}{F:Nat->Prop}{b:Nat}{h:Hd}{kn:List (List Int)}{l:aL}{evs:List Ev}{snt:List bC}{kb mb:Nat}{rbs:List Nat}{es:Array MapEntry}{clk:Nat}{ev sv:Value}
def Ey(p:PA w F b h kn l evs snt kb mb rbs es clk ev sv)(m:Codec.Msg)(N:Option Addr)(P Q:Nat)(x:Codec.Msg × Value)(H:x∈l)(s:gL m.a m.seq x.1=true) :
 Calls prog 254 #[pT b 0,aU m (.slice N P Q)] w fun e a=>e=.returned (.tuple #[])/\Below w w a:=by
 obtain⟨g,f,R,O⟩:=m;obtain⟨d,T⟩:=x;obtain⟨A,v,z,M⟩:=(p.d _ H).1.a;simp only at M s;subst M;have q:=p.a.a 15 _ rfl;have G:Hid (∀a,Below w w a->a.cell? (aT b 15)=some (.map (some mb))/\(Instr.lookup 156 (.map (some mb)) (.agg #[J g,J f]) true).run prog a=.ok (.tuple #[.agg #[J d.a,J d.seq,.slice A v z,.string d.b],.bool true]) a):=fun a k=>by
  refine⟨(yq (a:=(aT b 15)) (k.block b p.a.f)).trans q,?_⟩;have:=mz a g f ((k.block mb p.q).trans p.map) p.o p.i H s true;exact this
 have y:Hid (Below w w (w.alloc (.cells #[J g,J f,.slice N P Q,.string O] 179))):=(yi _ _).alloc (yb _) _;clear p H q;unfold aU;go_enter Tryz.func254,Tryz.ntmps254
 go_wp2_with fail
 refine(jR ⟨g,f,R,O⟩ _ _).mono ?_;rintro e n ⟨rfl,r⟩;have j:=ah (y.out.trans (r.mono ς));unfold bQ;simp only;go_wp2_with fail
 have i:Hid (∀a,Below (n.alloc (.cells #[J g,J f] 186)).heap.size (n.alloc (.cells #[J g,J f] 186)) a->Below w w a/\a.cell? (aT n 0)=some (J g)/\a.cell? (aT n 1)=some (J f)):=fun a k=>by
  have L:=(af.d n n.heap.size rfl 186 #[J g,J f]).c k ς;exact⟨(j.out.alloc j.out.size _).trans (k.mono (by have:=j.out.size;simp;omega)),L.a 0 _ rfl,L.a 1 _ rfl⟩
 have o:Hid (Below w w (n.alloc (.cells #[J g,J f] 186))):=j.out.alloc j.out.size _;generalize I:n.heap.size=B at i ⊢;generalize E:n.alloc _=D at i o ⊢;have C:Hid (∀a,Below D D a->a.cell? (aT b 15)=some (.map (some mb))/\(Instr.lookup 156 (.map (some mb)) (.agg #[J g,J f]) true).run prog a=.ok (.tuple #[.agg #[J d.a,J d.seq,.slice A v z,.string d.b],.bool true]) a/\a.cell? (aT B 0)=some (J g)/\a.cell? (aT B 1)=some (J f)):=fun a k=>⟨(G.out a (i.out a k).1).1,(G.out a (i.out a k).1).2,(i.out a k).2⟩;clear E I r j y G;refine wp_region_held_drew (S:=fun a=>a.cell? (aT b 15)=some (.map (some mb))/\(Instr.lookup 156 (.map (some mb)) (.agg #[J g,J f]) true).run prog a=.ok (.tuple #[.agg #[J d.a,J d.seq,.slice A v z,.string d.b],.bool true]) a/\a.cell? (aT B 0)=some (J g)/\a.cell? (aT B 1)=some (J f)) rfl (C.out _ (yi _ _).drew) (fun c=>?_)
 (iterate 9 refine ψ ?_)
 refine we 9 fun K u=>?_;go_simp;refine u.out _ _ (C.out _ ((yi _ _).drew.alloc (yb _) _)) (fun c=>?_);clear u K;try simp only[pU]
 refine we 10 fun K u=>?_;go_simp;refine u.out _ _ (C.out _ ((yi _ _).alloc (yb _) _).drew) (fun c=>?_);clear u K;try simp only[pU]
 refine wk 11 ?_;refine wpAnyH_done κ ?_ _;have t:Hid (Below w w (D.alloc (.cells #[J d.a,J d.seq,.slice A v z,.string d.b] 179)).drew):=(o.out.alloc o.out.size _).drew;generalize (D.alloc (.cells #[J d.a,J d.seq,.slice A v z,.string d.b] 179)).drew=S at t ⊢;clear C i o c;go_wp2_with fail
 refine wp_region_held_drew (S:=fun a=>Below w w a) rfl t.out.drew (fun c=>?_)
 (iterate 16 refine ψ ?_)
 refine wpAnyH_done κ ?_ _;go_wp2_with fail
 (try simp only[Exit.inBlock,Exit.then])
 refine bodyPost_ret (results_none rfl _ _ _) rfl ?_;exact⟨rfl,c⟩
def vQ(p:PA w F b h kn l evs snt kb mb rbs es clk ev sv)(G:h.n<=6)(m:Codec.Msg)(Q:Option Addr)(T U:Nat)(s:Nat)(W:s<h.n)(z:m.a=s)(v:∀x∈l,gL m.a m.seq x.1=false)(D:dz h.b kn s m.seq=true) :
 Calls prog 254 #[pT b 0,aU m (.slice Q T U)] w fun e a=>e=.returned (.tuple #[])/\Below w w a:=by
 obtain⟨X,d,V,R⟩:=m;simp only at z v D;subst z;have t:=p.a.a 15 _ rfl;have L:Hid (∀a,Below w w a->a.cell? (aT b 15)=some (.map (some mb))/\(Instr.lookup 156 (.map (some mb)) (.agg #[J s,J d]) true).run prog a=.ok (.tuple #[.agg #[J 0,J 0,sN,.string ⟨#[]⟩],.bool false]) a):=fun a g=>by
  refine⟨(yq (a:=(aT b 15)) (g.block b p.a.f)).trans t,?_⟩;exact my a s d ((g.block mb p.q).trans p.map) p.o v true
 have C:Hid (Below w w (w.alloc (.cells #[J s,J d,.slice Q T U,.string R] 179))):=(yi _ _).alloc (yb _) _;have I:Hid (∀a,Below w w a->Calls prog 186 #[pT b 0,.agg #[J s,J d]] a fun e M=>e=.returned (.bool true)/\Below a a M):=fun a g=>by
  have S:=p.j g;have:=kx b kb h (.map (some mb)) ev sv rbs kn a S.a S.e G s W d;rw[D] at this;exact this
 clear p v t;unfold aU;go_enter Tryz.func254,Tryz.ntmps254
 go_wp2_with fail
 refine(jR ⟨s,d,V,R⟩ _ _).mono ?_;rintro e k ⟨rfl,B⟩;have i:=ah (C.out.trans (B.mono ς));unfold bQ;simp only;go_wp2_with fail
 have f:Hid (∀a,Below (k.alloc (.cells #[J s,J d] 186)).heap.size (k.alloc (.cells #[J s,J d] 186)) a->Below w w a/\a.cell? (aT k 0)=some (J s)/\a.cell? (aT k 1)=some (J d)):=fun a g=>by
  have G:=(af.d k k.heap.size rfl 186 #[J s,J d]).c g ς;exact⟨(i.out.alloc i.out.size _).trans (g.mono (by have:=i.out.size;simp;omega)),G.a 0 _ rfl,G.a 1 _ rfl⟩
 have o:Hid (Below w w (k.alloc (.cells #[J s,J d] 186))):=i.out.alloc i.out.size _;generalize O:k.heap.size=q at f ⊢;generalize H:k.alloc _=u at f o ⊢;have E:Hid (∀a,Below u u a->a.cell? (aT b 15)=some (.map (some mb))/\(Instr.lookup 156 (.map (some mb)) (.agg #[J s,J d]) true).run prog a=.ok (.tuple #[.agg #[J 0,J 0,sN,.string ⟨#[]⟩],.bool false]) a/\a.cell? (aT q 0)=some (J s)/\a.cell? (aT q 1)=some (J d)):=fun a g=>⟨(L.out a (f.out a g).1).1,(L.out a (f.out a g).1).2,(f.out a g).2⟩;clear H O B i C L;refine wp_region_held_drew (S:=fun a=>a.cell? (aT b 15)=some (.map (some mb))/\(Instr.lookup 156 (.map (some mb)) (.agg #[J s,J d]) true).run prog a=.ok (.tuple #[.agg #[J 0,J 0,sN,.string ⟨#[]⟩],.bool false]) a/\a.cell? (aT q 0)=some (J s)/\a.cell? (aT q 1)=some (J d)) rfl (E.out _ (yi _ _).drew) (fun c=>?_)
 (iterate 9 refine ψ ?_)
 refine we 9 fun K r=>?_;go_simp;refine r.out _ _ (E.out _ ((yi _ _).drew.alloc (yb _) _)) (fun c=>?_);clear r K;try simp only[pU]
 refine we 10 fun K r=>?_;go_simp;refine r.out _ _ (E.out _ ((yi _ _).alloc (yb _) _).drew) (fun c=>?_);clear r K;try simp only[pU]
 refine wk 11 ?_;refine wpAnyH_done κ ?_ _;have y:Hid (Below w w (u.alloc (.cells #[J 0,J 0,sN,.string ⟨#[]⟩] 179)).drew):=(o.out.alloc o.out.size _).drew;have j:Hid (Below u u (u.alloc (.cells #[J 0,J 0,sN,.string ⟨#[]⟩] 179)).drew):=((yi _ _).alloc (yb _) _).drew;generalize (u.alloc (.cells #[J 0,J 0,sN,.string ⟨#[]⟩] 179)).drew=P at y j ⊢;have A:Hid (∀a,Below P P a->Below w w a/\a.cell? (aT q 0)=some (J s)/\a.cell? (aT q 1)=some (J d)):=fun a g=>⟨y.out.trans (g.mono y.out.size),(f.out a (j.out.trans (g.mono j.out.size))).2⟩;clear E f o c j;go_wp2_with fail
 refine wp_region_held_drew (S:=fun a=>Below w w a/\a.cell? (aT q 0)=some (J s)/\a.cell? (aT q 1)=some (J d)) rfl (A.out _ (yi _ _).drew) (fun c=>?_)
 (iterate 4 refine ψ ?_)
 refine we 4 fun K r=>?_;go_simp;refine(I.out _ c.1).mono ?_;rintro e Y ⟨rfl,N⟩;go_wp2_with fail
 refine r.out _ _ (A.out _ (((yi _ _).drew).trans (N.mono ς))) (fun c=>?_);clear r K;try simp only[pU]
 (iterate 11 refine ψ ?_)
 refine wpAnyH_done κ ?_ _;go_wp2_with fail
 (try simp only[Exit.inBlock,Exit.then])
 refine bodyPost_ret (results_none rfl _ _ _) rfl ?_;exact⟨rfl,c.1⟩
def jV{w:World}{a:Nat}{c:Obj}(h:w.heap[a]?=some c)(o:Obj):(setBlock w a o).heap[a]?=some o:=by
 show (w.heap.setIfInBounds a _)[a]?=_;rw[yR (yk.1 h).1]
def EA(p:PA w F b h kn l evs snt kb mb rbs es clk ev sv)(hn:h.n<=6)(m:Codec.Msg)(i:Option Addr)(j o:Nat)(s:Nat)(hs:s<h.n)(X:m.a=s)(B:∀x∈l,gL m.a m.seq x.1=false)(a4:dz h.b kn s m.seq=false)(V:jc h.b s=true)(ht:eB w F 3 1 (.slice i j o) m.c.length (ints m.c))(a2:∀g,(Value.slice i j o).ownBlock=some g->g ∉ rbs) :
 Calls prog 254 #[pT b 0,aU m (.slice i j o)] w fun e a=>e=.returned (.tuple #[])/\w.grownBy a (some mb)/\∃b2,PA a F b h kn (l++[(m,.slice i j o)]) evs snt kb mb rbs b2 (clk+1) ev sv:=by
 obtain⟨ms,c,mt,q⟩:=m;simp only at X B a4 ht;subst X;have M:=p.a.a 15 _ rfl;have HL:Hid (∀a,Below w w a->a.cell? (aT b 15)=some (.map (some mb))/\(Instr.lookup 156 (.map (some mb)) (.agg #[J s,J c]) true).run prog a=.ok (.tuple #[.agg #[J 0,J 0,sN,.string ⟨#[]⟩],.bool false]) a):=fun a f=>by
  refine⟨(yq (a:=(aT b 15)) (f.block b p.a.f)).trans M,?_⟩;exact my a s c ((f.block mb p.q).trans p.map) p.o B true
 have a3:Hid (Below w w (w.alloc (.cells #[J s,J c,.slice i j o,.string q] 179))):=(yi _ _).alloc (yb _) _;have U:Hid (∀a,Below w w a->Calls prog 186 #[pT b 0,.agg #[J s,J c]] a fun e a7=>e=.returned (.bool false)/\Below a a a7):=fun a f=>by
  have p':=p.j f;have:=kx b kb h (.map (some mb)) ev sv rbs kn a p'.a p'.e hn s hs c;rw[a4] at this;exact this
 have Q:=p.a.a 7 _ rfl;simp only[Hd.c,yf,yd,ye] at Q;have HC:Hid (∀a,Below w w a->a.cell? (aT b 7)=some (J h.b)/\a.cell? (aT b 15)=some (.map (some mb))/\a.cell? (aT w 0)=a.cell? (aT w 0)):=fun a f=>⟨(yq (a:=(aT b 7)) (f.block b p.a.f)).trans Q,(HL.out a f).1,rfl⟩;have HP:Hid (∀a v,Below w w a->v=.agg #[J s,J c,.slice i j o,.string q]->(Instr.mapUpdate 156 (.map (some mb)) (.agg #[J s,J c]) v).run prog a=.ok () (setBlock a mb (.map (es.push { key:=.agg #[J s,J c],val:=.agg #[J s,J c,.slice i j o,.string q],born:=clk }) (clk+1)))/\w.grownBy (setBlock a mb (.map (es.push { key:=.agg #[J s,J c],val:=.agg #[J s,J c,.slice i j o,.string q],born:=clk }) (clk+1))) (some mb)/\PA (setBlock a mb (.map (es.push { key:=.agg #[J s,J c],val:=.agg #[J s,J c,.slice i j o,.string q],born:=clk }) (clk+1))) F b h kn (l++[(⟨s,c,mt,q⟩,.slice i j o)]) evs snt kb mb rbs (es.push { key:=.agg #[J s,J c],val:=.agg #[J s,J c,.slice i j o,.string q],born:=clk }) (clk+1) ev sv):=fun a v f hv=>by
  subst hv;have P:=(f.block mb p.q).trans p.map;have hg:w.grownBy (setBlock a mb (.map (es.push { key:=.agg #[J s,J c],val:=.agg #[J s,J c,.slice i j o,.string q],born:=clk }) (clk+1))) (some mb):=by
   have g2:=ep P (.map (es.push { key:=.agg #[J s,J c],val:=.agg #[J s,J c,.slice i j o,.string q],born:=clk }) (clk+1));exact⟨g2.os.trans f.os,g2.tape.trans f.tape,g2.output.trans f.output,yr f.size g2.size,fun k hk b0=>(g2.block k (yg hk f.size) b0).trans (f.block k hk)⟩
  refine⟨Au a s c _ P p.o B,hg,p.y hg ?_ (p.o.put ⟨s,c,mt,q⟩ (.slice i j o)) ?_ ?_⟩
  ·exact jV P _
  ·refine List.pairwise_append.2 ⟨p.i,ς,fun x L y hy=>?_⟩;rw[yu] at hy;subst hy;have:=B x L;rw[<-Kr] at this ⊢;intro e;rw[cu] at e this;exact this ⟨e.1.symm,e.2.symm⟩
  ·intro x L a9;rcases yz.1 L with L|L
   ·exact absurd L a9
   ·rw[yu] at L;subst L;refine⟨ht.i fun g Z=>?_,a2⟩;have a5:=ht.k Z;obtain⟨b6,a0⟩:=ht.m Z;exact hg.block g a5 fun e=>cq a0 p.map (by injection e)
 have Y:=af.d w _ rfl 179 #[J s,J c,.slice i j o,.string q];have HX:Hid (∀a,Below (w.heap.size+1) (w.alloc (.cells #[J s,J c,.slice i j o,.string q] 179)) a->a.cell? (aT w 0)=some (J s)/\a.cell? (aT w 1)=some (J c)/\a.cell? (aT w 2)=some (.slice i j o)/\a.cell? (aT w 3)=some (.string q)):=fun a f=>by
  have:=Y.c f ω;exact⟨this.a 0 _ rfl,this.a 1 _ rfl,this.a 2 _ rfl,this.a 3 _ rfl⟩
 have O:=ah (fun a=>by
  have:=gE h.b s a ω;rw[V] at this;exact this)
 clear p B M Q ht a2 Y;unfold aU;go_enter Tryz.func254,Tryz.ntmps254
 go_wp2_with fail
 refine(jR ⟨s,c,mt,q⟩ _ _).mono ?_;rintro e C ⟨rfl,D⟩;have z:=ah (a3.out.trans (D.mono ς));have W:Hid (Below (w.heap.size+1) (w.alloc (.cells #[J s,J c,.slice i j o,.string q] 179)) C):=D.mono ς;unfold bQ;simp only;go_wp2_with fail
 have r:Hid (∀a,Below (C.alloc (.cells #[J s,J c] 186)).heap.size (C.alloc (.cells #[J s,J c] 186)) a->Below w w a/\a.cell? (aT C 0)=some (J s)/\a.cell? (aT C 1)=some (J c)):=fun a f=>by
  have hn:=(af.d C C.heap.size rfl 186 #[J s,J c]).c f ς;exact⟨(z.out.alloc z.out.size _).trans (f.mono (by have:=z.out.size;simp;omega)),hn.a 0 _ rfl,hn.a 1 _ rfl⟩
 have I:Hid (Below w w (C.alloc (.cells #[J s,J c] 186))):=z.out.alloc z.out.size _;have E:Hid (Below (w.heap.size+1) (w.alloc (.cells #[J s,J c,.slice i j o,.string q] 179)) (C.alloc (.cells #[J s,J c] 186))):=W.out.alloc (by have:=D.size;simpa using this) _;generalize b3:C.heap.size=N at r ⊢;generalize a6:C.alloc (.cells #[J s,J c] 186)=R at r I E ⊢;have HS:Hid (∀a,Below R R a->a.cell? (aT b 15)=some (.map (some mb))/\(Instr.lookup 156 (.map (some mb)) (.agg #[J s,J c]) true).run prog a=.ok (.tuple #[.agg #[J 0,J 0,sN,.string ⟨#[]⟩],.bool false]) a/\a.cell? (aT N 0)=some (J s)/\a.cell? (aT N 1)=some (J c)):=fun a f=>⟨(HL.out a (r.out a f).1).1,(HL.out a (r.out a f).1).2,(r.out a f).2⟩;clear a6 b3 D z a3 HL W;refine wp_region_held_drew (S:=fun a=>a.cell? (aT b 15)=some (.map (some mb))/\(Instr.lookup 156 (.map (some mb)) (.agg #[J s,J c]) true).run prog a=.ok (.tuple #[.agg #[J 0,J 0,sN,.string ⟨#[]⟩],.bool false]) a/\a.cell? (aT N 0)=some (J s)/\a.cell? (aT N 1)=some (J c)) rfl (HS.out _ (yi _ _).drew) (fun d=>?_)
 (iterate 9 refine ψ ?_)
 refine we 9 fun K u=>?_;go_simp;refine u.out _ _ (HS.out _ ((yi _ _).drew.alloc (yb _) _)) (fun d=>?_);clear u K;try simp only[pU]
 refine we 10 fun K u=>?_;go_simp;refine u.out _ _ (HS.out _ ((yi _ _).alloc (yb _) _).drew) (fun d=>?_);clear u K;try simp only[pU]
 refine wk 11 ?_;refine wpAnyH_done κ ?_ _;have G:Hid (Below w w (R.alloc (.cells #[J 0,J 0,sN,.string ⟨#[]⟩] 179)).drew):=(I.out.alloc I.out.size _).drew;have t:Hid (Below R R (R.alloc (.cells #[J 0,J 0,sN,.string ⟨#[]⟩] 179)).drew):=((yi _ _).alloc (yb _) _).drew;generalize (R.alloc (.cells #[J 0,J 0,sN,.string ⟨#[]⟩] 179)).drew=T at G t ⊢;have S:Hid (Below (w.heap.size+1) (w.alloc (.cells #[J s,J c,.slice i j o,.string q] 179)) T):=E.out.trans (t.out.mono (by have:=E.out.size;simpa using this));have A:Hid (∀a,Below T T a->Below w w a/\a.cell? (aT b 7)=some (J h.b)/\a.cell? (aT b 15)=some (.map (some mb))/\a.cell? (aT N 0)=some (J s)/\a.cell? (aT N 1)=some (J c)/\a.cell? (aT w 0)=some (J s)/\a.cell? (aT w 1)=some (J c)/\a.cell? (aT w 2)=some (.slice i j o)/\a.cell? (aT w 3)=some (.string q)):=fun a f=>by
  have hB:=G.out.trans (f.mono G.out.size);exact⟨hB,(HC.out a hB).1,(HC.out a hB).2.1,(r.out a (t.out.trans (f.mono t.out.size))).2.1,(r.out a (t.out.trans (f.mono t.out.size))).2.2,HX.out a (S.out.trans (f.mono (by have:=S.out.size;simpa using this)))⟩
 clear HS r I d t HX E S HC;go_wp2_with fail
 refine wp_region_held_drew (S:=fun a=>Below w w a/\a.cell? (aT b 7)=some (J h.b)/\a.cell? (aT N 0)=some (J s)/\a.cell? (aT N 1)=some (J c)/\a.cell? (aT w 0)=some (J s)) rfl (by have:=A.out _ (yi _ _).drew;exact⟨this.1,this.2.1,this.2.2.2.1,this.2.2.2.2.1,this.2.2.2.2.2.1⟩) (fun d=>?_)
 (iterate 4 refine ψ ?_)
 refine we 4 fun K u=>?_;go_simp;refine(U.out _ d.1).mono ?_;rintro e w5 ⟨rfl,a1⟩;have H:Hid (Below T T w5):=((yi _ _).drew).trans (a1.mono ς);go_wp2_with fail
 refine u.out _ _ (by have:=A.out _ H.out;exact⟨this.1,this.2.1,this.2.2.2.1,this.2.2.2.2.1,this.2.2.2.2.2.1⟩) (fun d=>?_);clear u K;try simp only[pU]
 (iterate 8 refine ψ ?_)
 refine we 13 fun K u=>?_;go_simp;refine(O.out _).mono ?_;rintro e w6 ⟨rfl,rfl⟩;go_wp2_with fail
 refine u.out _ _ (by have:=A.out _ H.out;exact⟨this.1,this.2.1,this.2.2.2.1,this.2.2.2.2.1,this.2.2.2.2.2.1⟩) (fun d=>?_);clear u K;try simp only[pU]
 (iterate 2 refine ψ ?_)
 refine wpAnyH_done κ ?_ _;obtain⟨b1,c7,b4,k0,k1,x0,x1,x2,x3⟩:=A.out _ H.out;have hP:=HP.out _ _ b1.drew rfl;have hU:Hid (_/\_/\_):=hP;obtain⟨b5,a8⟩:=hP;clear HP A O U H a1 d G;clear a8;go_wp2_with fail
 refine gl.b (fun a=>a=w6.drew) 6 rfl rfl (fun d=>?_)
 (iterate 6 refine χ ?_)
 refine te 6 fun K u=>?_;go_simp;refine u.out _ _ (fun h=>absurd rfl h) (fun _=>?_);clear u K;try simp only[pU]
 refine gl.done κ ?_ _;go_wp2_with fail
 go_end0
 exact⟨rfl,hU.out.2.1,_,hU.out.2.2⟩
variable {w3 w4:World}{g cap:Nat}
def tH(l:List Ev)(e:Ev):az (l++[e])=az l++e.f:=by simp[az]
def kQ(l:List bC)(e:bC):ar (l++[e])=ar l++[J e.1,.string e.2]:=by simp[ar]
def PA.a4(p:PA w F b h kn l evs snt kb mb rbs es clk ev sv)(k:Below w w w3)(n:w3.grownBy w4 ev.ownBlock){e:Ev}(s:w4.ownsRow 0 64 6 (sT g (evs.length+1) cap) (evs.length+1) (az evs++e.f))(i:ev.ownBlock=some g\/w.heap.size<=g) :
 cW (fun x=>x=b\/ev.ownBlock=some x) w (w4.setCell ⟨b,17,none⟩ (sT g (evs.length+1) cap))/\PA (w4.setCell ⟨b,17,none⟩ (sT g (evs.length+1) cap)) (aY F w) b h kn l (evs++[e]) snt kb mb rbs es clk (sT g (evs.length+1) cap) sv:=by
 have f:=p.j k;have j:∀x,x<w3.heap.size->(∀d,w3.heap[x]?≠some _)->w4.heap[x]?=w3.heap[x]?:=fun x o E=>n.block x o fun t=>by
  obtain⟨d,q⟩:=f.c.m t.symm;exact E d q
 have r:∀d,w3.heap[b]?≠some (.cells d 64 (0,0)):=fun d q=>by
  have:=f.a;unfold af at this;rw[q] at this;injection this with this;injection this with _ this;exact absurd this θ
 have z:af w4 b 159 _:=(j b f.a.f r).trans f.a;have y:=z.e 17 (sT g (evs.length+1) cap);have B:g≠b:=by
  rcases i with i|i
  ·exact p.c.o i p.a θ
  ·have:=p.a.f;omega
 refine⟨⟨n.os.trans k.os,n.tape.trans k.tape,n.output.trans k.output,by simpa using yr k.size n.size,fun x o D=>?_⟩,?_⟩
 ·rw[yT _ _ _ _ (fun t=>D (.inl t))];refine(n.block x (yg o k.size) fun t=>D (.inr t.symm)).trans (k.block x o)
 ·refine(f.k aY.c).p rfl y (fun x o u A _=>?_) ?_ ?_
  ·rw[yT _ _ _ _ u];exact j x o A
  ·rw[yC,tH];refine⟨aj s fun m a=>?_,fun m a=>?_⟩
   ·have:m=g:=by simpa[Value.ownBlock] using a.symm
    subst this;exact yT _ _ _ _ B
   ·have:m=g:=by simpa[Value.ownBlock] using a.symm
    subst this;rcases i with i|i
    ·exact .inl (p.c.c _ i)
    ·exact .inr i
  ·refine⟨aj f.f.d fun m a=>?_,fun m a=>.inl (p.f.c m a)⟩;obtain⟨d,q⟩:=f.f.m a;have v:=eZ q f.a θ;rw[yT _ _ _ _ v];refine j m (f.f.k a) fun C c=>?_;rw[q] at c;injection c with c;injection c with _ c;exact absurd c θ
def PA.a7(p:PA w F b h kn l evs snt kb mb rbs es clk ev sv)(k:Below w w w3)(n:w3.grownBy w4 sv.ownBlock){e:bC}(t:w4.ownsRow 0 111 2 (sT g (snt.length+1) cap) (snt.length+1) (ar snt++[J e.1,.string e.2]))(i:sv.ownBlock=some g\/w.heap.size<=g) :
 cW (fun x=>x=b\/sv.ownBlock=some x) w (w4.setCell ⟨b,18,none⟩ (sT g (snt.length+1) cap))/\PA (w4.setCell ⟨b,18,none⟩ (sT g (snt.length+1) cap)) (aY F w) b h kn l evs (snt++[e]) kb mb rbs es clk ev (sT g (snt.length+1) cap):=by
 have f:=p.j k;have j:∀x,x<w3.heap.size->(∀d,w3.heap[x]?≠some _)->w4.heap[x]?=w3.heap[x]?:=fun x o E=>n.block x o fun u=>by
  obtain⟨d,q⟩:=f.f.m u.symm;exact E d q
 have s:∀d,w3.heap[b]?≠some (.cells d 111 (0,0)):=fun d q=>by
  have:=f.a;unfold af at this;rw[q] at this;injection this with this;injection this with _ this;exact absurd this θ
 have A:af w4 b 159 _:=(j b f.a.f s).trans f.a;have z:=A.e 18 (sT g (snt.length+1) cap);have B:g≠b:=by
  rcases i with i|i
  ·exact p.f.o i p.a θ
  ·have:=p.a.f;omega
 refine⟨⟨n.os.trans k.os,n.tape.trans k.tape,n.output.trans k.output,by simpa using yr k.size n.size,fun x o D=>?_⟩,?_⟩
 ·rw[yT _ _ _ _ (fun u=>D (.inl u))];refine(n.block x (yg o k.size) fun u=>D (.inr u.symm)).trans (k.block x o)
 ·refine(f.k aY.c).p rfl z (fun x o v _ r=>?_) ?_ ?_
  ·rw[yT _ _ _ _ v];exact j x o r
  ·refine⟨aj f.c.d fun m a=>?_,fun m a=>.inl (p.c.c m a)⟩;obtain⟨d,q⟩:=f.c.m a;have y:=eZ q f.a θ;rw[yT _ _ _ _ y];refine j m (f.c.k a) fun C c=>?_;rw[q] at c;injection c with c;injection c with _ c;exact absurd c θ
  ·rw[yC,kQ];refine⟨aj t fun m a=>?_,fun m a=>?_⟩
   ·have:m=g:=by simpa[Value.ownBlock] using a.symm
    subst this;exact yT _ _ _ _ B
   ·have:m=g:=by simpa[Value.ownBlock] using a.symm
    subst this;rcases i with i|i
    ·exact .inl (p.f.c _ i)
    ·exact .inr i
