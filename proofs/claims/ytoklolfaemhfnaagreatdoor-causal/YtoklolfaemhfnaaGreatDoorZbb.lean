import Derived.Test.YtoklolfaemhfnaaGreatDoorZba
set_option maxRecDepth 100000
set_option maxHeartbeats 0
set_option linter.defProp false
namespace Go.Pm
section
open Go Go.Conc
variable {v:Value}{w1 w':World}{ev es:Array Event}{g':Goroutine}
def _root_.Go.World.tp(w:World)(τ:Nat->Question->Nat):World:={ w with tape:=τ }
@[simp] theorem Hc (w:World) (b a:Nat->Question->Nat):(w.tp b).tp a=w.tp a:=rfl
@[simp] theorem Ln (w:World):w.tp w.tape=w:=rfl
def sV(P:Program)(w:World)(h:Nat->Question->Nat)(b:Addr)(u:TypeId)(k:Addr)(v:Value)(a:Bool) :
 (w.tp h).viewStore P b u k v a=(w.viewStore P b u k v a).map (fun r=>(r.1.tp h,r.2)):=by
 have e:(w.tp h).seen P b u k _=w.seen P b u k a:=rfl;unfold World.viewStore;rw[e];by_cases j:(!tight P P.depth u)=true
 ·simp only[j,if_true];rfl
 ·simp only[j,if_false,yH];cases o:w.seen P b u k _ with
  |error x=>rfl
  | ok r =>
    obtain⟨c,e,n,i,f,g⟩:=r;cases p:v.bytes? with
    |none=>rfl
    | some d =>
      by_cases l:some d.length≠Option.map (fun x=>x.length) f.bytes?
      ·simp only[bind,Except.bind,pure,Except.pure,if_pos l];rfl
      ·simp only[bind,Except.bind,pure,Except.pure,if_neg l];generalize m:(List.foldlM _ c _:Except _ _)=q;cases q <;> rfl
def pk{P:Program}{w:World}{f:Addr}{u:TypeId}{k:Addr}{a:Bool}{r:World × List Addr}(h:w.viewStore P f u k v a=.ok r):r.1.drawn=w.drawn/\r.1.tape=w.tape:=by
 unfold World.viewStore at h;by_cases l:(!tight P P.depth u)=true
 ·simp only[l,if_true] at h;cases h
 ·simp only[l,if_false,yH] at h;cases j:w.seen P f u k _ with
  |error x=>rw[j] at h;cases h
  | ok q =>
    obtain⟨c,e,p,i,d,g⟩:=q;rw[j] at h;cases m:v.bytes? with
    |none=>rw[m] at h;cases h
    | some b =>
      rw[m] at h;by_cases n:some b.length≠Option.map (fun x=>x.length) d.bytes?
      ·simp only[bind,Except.bind,pure,Except.pure,if_pos n] at h;cases h
      ·simp only[bind,Except.bind,pure,Except.pure,if_neg n] at h;generalize o:(List.foldlM _ c _:Except _ _)=q at h;cases q with
       |error x=>cases h
       |ok y=>cases h;exact⟨rfl,rfl⟩
def ji{α:Type}:Sem α->Prop
 |.pure _ | .halt _=>True
 |.load _ _ k=>∀v,ji (k v)
 |.store _ _ _ k | .freeze _ _ k | .setObj _ _ k | .mark _ k=>ji k
 |.new _ k=>∀r,ji (k r)
 |.shape _ k=>∀r,ji (k r)
 |.frozen _ k=>∀r,ji (k r)
 |.getObj _ k=>∀r,ji (k r)
 |.choose _ k=>∀r,ji (k r)
 |.program k=>∀p,ji (k p)
 |.sys _ _=>False
def rj{d f:Type}{e:Perm}{h:d->f}(s:Sem d):ji (s.bN e h):=by
 induction s with
 |pure a=>trivial
 |halt x=>trivial
 |sys c k b=>trivial
 |store m a v k b=>exact b
 |freeze a n k b=>exact b
 |setObj r o k b=>exact b
 |mark m k b=>exact b
 |_=>rename_i b;exact fun x=>b _
section
variable {P:Program}{α:Type}
def zR(s:Sem α):ji s->∀{w t:World}{A j:Array Event}{a:α},s.runT P w A=(.ok a t,j)->w.drawn<=t.drawn/\t.tape=w.tape/\
 ∀g:Nat->Question->Nat,(∀i,w.drawn<=i->i<t.drawn->g i=w.tape i)->s.runT P (w.tp g) A=(.ok a (t.tp g),j):=by
 induction s with
 | pure a =>
   intro d w t A j b h;obtain⟨⟨rfl,rfl⟩,rfl⟩:=h;exact⟨yb _,rfl,fun g _=>rfl⟩
 |halt x=>intro d w t A j b h;simp only[Sem.runT,CN] at h;cases h.1
 |program k p=>intro d w t A j b h;exact p P (d P) h
 |mark m k p=>intro d w t A j b h;exact p d h
 | freeze a n k p =>
   intro d w t A j b h;have:=p d h;have H:(w.freeze a n).drawn=w.drawn:=by unfold World.freeze;split <;> rfl
   have E:(w.freeze a n).tape=w.tape:=by unfold World.freeze;split <;> rfl
   have R:∀g,(w.tp g).freeze a n=(w.freeze a n).tp g:=fun g=>by unfold World.freeze;split <;> rfl
   rw[H,E] at this;exact⟨this.1,this.2.1,fun g l=>by have:=this.2.2 g l;rw[<-R] at this;exact this⟩
 |shape r k p=>intro d w t A j b h;exact p _ (d _) h
 |frozen r k p=>intro d w t A j b h;exact p _ (d _) h
 | new o k p =>
   intro d w t A j b h;exact p _ (d _) (w:={ w with heap:=w.heap.push o }) h
 |sys c k p=>intro d;exact d.elim
 | choose q k p =>
   intro d w t A j b h;simp only[Sem.runT] at h;by_cases F:q.forced=true
   ·simp only[F,if_true] at h;have:=p 0 (d 0) h;exact⟨this.1,this.2.1,fun g l=>by simp only[Sem.runT,F,if_true];exact this.2.2 g l⟩
   ·simp only[F,yH,if_false] at h;have:=p _ (d _) (w:={ w with drawn:=w.drawn+1 }) h;refine⟨ν,this.2.1,fun g l=>?_⟩;have e:g w.drawn=w.tape w.drawn:=(by grind);have M:=this.2.2 g (fun i N K=>ν);simp only[Sem.runT,F,yH,if_false,World.tp] at M ⊢;rw[e];exact M
 | load m a k p =>
   intro d w t A j b h;have e:∀g,(w.tp g).cell? a=w.cell? a:=fun _=>rfl;have E:∀g,(w.tp g).farLoad P a (m == .atomic)=w.farLoad P a (m == .atomic):=fun _=>rfl;simp only[Sem.runT] at h;cases y:w.cell? a with
   | some v =>
     rw[y] at h;have:=p _ (d _) h;exact⟨this.1,this.2.1,fun g l=>by simp only[Sem.runT,e,y];exact this.2.2 g l⟩
   | none =>
     rw[y] at h;cases B:w.farLoad P a (m == .atomic) with
     | ok r =>
       rw[B] at h;have:=p _ (d _) h;exact⟨this.1,this.2.1,fun g l=>by simp only[Sem.runT,e,y,E,B];exact this.2.2 g l⟩
     |error x=>rw[B] at h;cases h
 | getObj r k p =>
   intro d w t A j b h;cases C:w.heap[r]? with
   |none=>simp only[Sem.runT] at h;rw[C] at h;cases h
   | some o =>
     by_cases z:∃c e f,o=.cells c e f
     ·obtain⟨c,e,f,rfl⟩:=z;simp only[Sem.runT] at h;rw[C] at h;cases h
     ·have y:∀c e f,o≠.cells c e f:=fun c e f h=>ν;rw[gQ C y] at h;have:=p _ (d _) h;exact⟨this.1,this.2.1,fun g l=>by rw[gQ (w:=w.tp g) C y];exact this.2.2 g l⟩
 | setObj r T k p =>
   intro d w t A j b h;cases C:w.heap[r]? with
   |none=>simp only[Sem.runT] at h;rw[C] at h;cases h
   | some o =>
     by_cases z:∃c e f,o=.cells c e f
     ·obtain⟨c,e,f,rfl⟩:=z;simp only[Sem.runT] at h;rw[C] at h;cases h
     ·have y:∀c e f,o≠.cells c e f:=fun c e f h=>ν;rw[gR C y] at h;have:=p d (w:={ w with heap:=w.heap.setIfInBounds r T }) h;exact⟨this.1,this.2.1,fun g l=>by rw[gR (w:=w.tp g) C y];exact this.2.2 g l⟩
 | store m a v k p =>
   intro d w t A j b h;by_cases D:(∀c,v≠.agg c)/\∀c,v≠.tuple c
   ·have e:∀g,(w.tp g).cell? a=w.cell? a:=fun _=>rfl;have O:∀g,(w.tp g).frozen? a=w.frozen? a:=fun _=>rfl;rw[cF D] at h;cases y:w.cell? a with
    | some u =>
      rw[y] at h;by_cases G:w.frozen? a=true
      ·simp only[G,if_true] at h;cases h
      ·simp only[G,yH,if_false] at h;have:=p d (w:=w.setCell a v) h;exact⟨this.1,this.2.1,fun g l=>by rw[cF D];simp only[e,O,y,G,yH,if_false];exact this.2.2 g l⟩
    | none =>
      rw[y] at h;cases B:w.farStore P a v (m == .atomic) with
      |error x=>rw[B] at h;cases h
      | ok r =>
        rw[B] at h;have Q:r.1.drawn=w.drawn/\r.1.tape=w.tape/\∀g,(w.tp g).farStore P a v (m == .atomic)=.ok (r.1.tp g,r.2):=by
         unfold World.farStore at B ⊢;have S:∀g,(w.tp g).heap=w.heap:=fun _=>rfl;split at B
         ·rename_i L u D
          cases I:w.viewStore P L u a v (m == .atomic) with
          |error x=>grind
          | ok q =>
            rw[I] at B;injection B with B;subst B;obtain⟨H,E⟩:=pk I;refine⟨H,E,fun g=>?_⟩;rw[S,D];simp only[sV,I,Except.map]
         ·cases B
        have:=p d h;refine⟨ω,ν,fun g l=>?_⟩;rw[cF D];simp only[e,y,Q.2.2 g];exact this.2.2 g (fun i N K=>by grind)
   ·cases v <;> first|(simp only[Sem.runT,CN] at h;cases h.1)|exact absurd (And.intro (fun c e=>(by cases e)) (fun c e=>(by cases e))) D
end
def zL(w w':World)(τ:Nat->Question->Nat):Prop:=∀i,w.drawn<=i->i<w'.drawn->τ i=w.tape i
def Tp(P:Program)(fr:Frame)(cs:List Frame)(w:World)(g':Goroutine)(w':World)(es:Array Event):Prop:=
 w.drawn<=w'.drawn/\w'.tape=w.tape/\∀τ,zL w w' τ->stepG P true (G fr cs) (w.tp τ)=.go g' (w'.tp τ) es
section
variable {P:Program}{F:Fam}{π:Perm}{fr:Frame}{cs:List Frame}{w wa:World}
def pe(g:bL P F)(h:bY P F π fr cs w wa){a:Func}(d:(results a fr.tmps).runT P w #[]=(.ok v w1,ev)) :
 w.drawn<=w1.drawn/\w1.tape=w.tape/\∀b,zL w w1 b->(results a fr.tmps).runT P (w.tp b) #[]=(.ok v (w1.tp b),ev):=by
 have c:((results a fr.tmps).bz P).bN kF (Value.pm kF)=(results a fr.tmps).bz P:=by
  have:=ay.z (iA g (fG F w.heap.size)) a fr.tmps;rw[h.h _ (fG F _)] at this;exact this.symm
 have f:ji ((results a fr.tmps).bz P):=by rw[<-c];exact rj _
 obtain⟨k,j,i⟩:=zR _ f (j5 d);exact⟨k,j,fun b e=>j4 (i b e)⟩
def Fz(l:bL P F)(h:bY P F π fr cs w wa){o:Oper}(z:uH P F o.op=true)(k:∀x,o.op≠.panic x){n:Next}(j:(execOp fr.eval o).runT P w #[]=(.ok n w1,ev)) :
 w.drawn<=w1.drawn/\w1.tape=w.tape/\∀g,zL w w1 g->(execOp fr.eval o).runT P (w.tp g) #[]=(.ok n (w1.tp g),ev):=by
 have d:=fG F w.heap.size;have i:=
  (ay.e7 (iA l d) (fun x p=>(fZ h.h p _ d).symm) d.2.1 (fun x p A a b e=>by
   obtain⟨f,rfl,s⟩:=dw l (fZ h.h p) e;obtain⟨y,c,m,t,_⟩:=l.a f s;exact⟨f,y,rfl,d.2.1 f s,m,ν⟩) z k).symm
 have r:ji ((execOp fr.eval o).bz P):=by rw[<-i];exact rj _
 obtain⟨m,t,u⟩:=zR _ r (j5 j);exact⟨m,t,fun g q=>j4 (u g q)⟩
def dj{g:Goroutine}(b:GStep.go g w #[]=.go g' w' es)(c:∀a,stepG P true (G fr cs) (w.tp a)=.go g (w.tp a) #[]):Tp P fr cs w g' w' es:=by
 injection b with e1 e2 e3;subst e1 e2 e3;exact⟨yb _,rfl,fun a _=>c a⟩
def FB(U:bL P F)(h:bY P F π fr cs w wa)(a4:¬(fr.mode=.returning/\cs=[]))(d:stepG P true (G fr (cs++[ai])) w=.go g' w' es) :
 Da g'\/Tp P fr (cs++[ai]) w g' w' es:=by
 rcases h.a.mode with O|O
 ·have p:∀v,stepG P true (G fr (cs++[ai])) v=stepG.exec P true true fr (cs++[ai]) none v:=fun v=>j6 P true fr _ v O;rw[p] at d;have T:=h.a.round;unfold stepG.exec at d;cases j:fr.todo with
  |nil=>simp only[j,T] at d;exact .inr (dj d fun m=>by rw[p];unfold stepG.exec;simp only[j,T];rfl)
  | cons it k =>
    have M:=h.a.todo it ν;cases it with
    |inBlock K=>simp only[j] at d;exact .inr (dj d fun m=>by rw[p];unfold stepG.exec;simp only[j])
    |inScope c=>simp only[j] at d;exact .inr (dj d fun m=>by rw[p];unfold stepG.exec;simp only[j])
    |inLoop c=>simp only[j] at d;exact .inr (dj d fun m=>by rw[p];unfold stepG.exec;simp only[j])
    | inRegion E V =>
      cases V with
      |nil=>simp only[j] at d;exact .inr (dj d fun m=>by rw[p];unfold stepG.exec;simp only[j])
      | cons i r =>
        simp only[j] at d;by_cases hw:((E[i]?).map (Region.wanted · (yielded E fr.tmps))).getD false=true
        ·simp only[hw,if_true] at d;have a1:∀v,stepG P true (G fr (cs++[ai])) v=stepG.oper P true fr (cs++[ai]) none v:=fun v=>by
          rw[p];unfold stepG.exec;simp only[j,hw,if_true]
         unfold stepG.oper Frame.oper? at d;simp only[j] at d;cases ho:E[i]? with
         |none=>grind
         | some o =>
           simp only[ho,T] at d;have N:∀v,stepG P true (G fr (cs++[ai])) v=stepG.apply P true fr (cs++[ai]) none (execOp fr.eval o) v:=fun v=>by
            rw[a1];unfold stepG.oper Frame.oper?;simp only[j,ho,T]
           have ok:=Ku.1 M o (yaj ho);by_cases H:∃x,o.op=.panic x
           ·obtain⟨x,a0⟩:=H;obtain⟨y,C,B,g,hy⟩:=jz a0 w #[];rcases hy with ⟨v,rfl⟩|⟨u,rfl⟩|⟨u,rfl,hu⟩
            ·rw[dU P fr _ w _ h.a.kind v C B g] at d;injection d with e1 e2 e3;have A:fr.raise [{ v,recovered:=false }]={ fr with mode:=.panicking [{ v,recovered:=false }] }:=by unfold Frame.raise;rw[O]
             rw[A] at e1;exact .inl ⟨{ fr with mode:=.panicking [{ v,recovered:=false }] },cs,_,e1.symm,rfl,h.a.defers,fun c hc=>(h.j c hc).1.defers⟩
            ·obtain⟨_,_,_,e⟩:=dV P fr (cs++[ai]) w _ h.a.kind u C B g;grind
            ·obtain⟨_,_,_,e⟩:=dW P fr (cs++[ai]) w _ h.a.kind u C B hu g;grind
           obtain⟨D,_⟩:=oX U h ok fun x e=>H ⟨x,e⟩;cases g:(execOp fr.eval o).runT P w #[] with
           | mk R B =>
             cases R with
             | halt x C =>
               rcases mP D g with ⟨v,rfl⟩|⟨u,rfl⟩|⟨u,rfl,hu⟩
               ·rw[dU P fr _ w _ h.a.kind v C B g] at d;injection d with e1 e2 e3;have A:fr.raise [{ v,recovered:=false }]={ fr with mode:=.panicking [{ v,recovered:=false }] }:=by unfold Frame.raise;rw[O]
                rw[A] at e1;exact .inl ⟨{ fr with mode:=.panicking [{ v,recovered:=false }] },cs,_,e1.symm,rfl,h.a.defers,fun c hc=>(h.j c hc).1.defers⟩
               ·obtain⟨_,_,_,e⟩:=dV P fr (cs++[ai]) w _ h.a.kind u C B g;grind
               ·obtain⟨_,_,_,e⟩:=dW P fr (cs++[ai]) w _ h.a.kind u C B hu g;grind
             | ok n C =>
               obtain⟨X,W,Y⟩:=Fz U h ok (fun x e=>H ⟨x,e⟩) g;have S:=sF ok (fun x p fn a b e=>by
                obtain⟨f,rfl,hF⟩:=dw U (fZ h.h p) e;obtain⟨fd,c,q1,q2,q4⟩:=U.a f hF;grind) g
               right;rcases S with ⟨v,rfl⟩|rfl|⟨f,L,rfl⟩
               ·rw[eS P fr _ w _ h.a.kind v C B g] at d;injection d with e1 e2 e3;subst e1 e2 e3;exact⟨X,W,fun m z=>by rw[N,eS P fr _ _ _ h.a.kind v _ B (Y m z)]⟩
               ·rw[fY P fr _ w _ h.a.kind C B g] at d;injection d with e1 e2 e3;subst e1 e2 e3;exact⟨X,W,fun m z=>by rw[N,fY P fr _ _ _ h.a.kind _ B (Y m z)]⟩
               ·rw[dT P fr _ w E i r k _ j h.a.kind f L C B g] at d;injection d with e1 e2 e3;subst e1 e2 e3;exact⟨X,W,fun m z=>by rw[N,dT P fr _ _ E i r k _ j h.a.kind f L _ B (Y m z)]⟩
        ·simp only[hw,yH,if_false] at d;exact .inr (dj d fun m=>by rw[p];unfold stepG.exec;simp only[j,hw,yH,if_false])
    | code c =>
      cases c with
      |skip=>simp only[j] at d;exact .inr (dj d fun m=>by rw[p];unfold stepG.exec;simp only[j])
      |label l=>simp only[j] at d;exact .inr (dj d fun m=>by rw[p];unfold stepG.exec;simp only[j])
      |seq a b=>simp only[j] at d;exact .inr (dj d fun m=>by rw[p];unfold stepG.exec;simp only[j])
      |block K c=>simp only[j] at d;exact .inr (dj d fun m=>by rw[p];unfold stepG.exec;simp only[j])
      |loop c=>simp only[j] at d;exact .inr (dj d fun m=>by rw[p];unfold stepG.exec;simp only[j])
      |scope c=>simp only[j] at d;exact .inr (dj d fun m=>by rw[p];unfold stepG.exec;simp only[j])
      |ret=>simp only[j,T] at d;exact .inr (dj d fun m=>by rw[p];unfold stepG.exec;simp only[j,T];rfl)
      |refuse a3=>grind
      |rangeFunc f ps a b=>exact absurd M (by simp[cD,cC])
      | cond c a b =>
        simp only[j] at d;cases he:fr.eval c with
        | bool t =>
          simp only[he] at d;exact .inr (dj d fun m=>by rw[p];unfold stepG.exec;simp only[j,he])
        |_=>grind
      | exit K =>
        simp only[j] at d;cases I:exitTo K k with
        |none=>grind
        | some k' =>
          simp only[I,Option.elim_some] at d;exact .inr (dj d fun m=>by rw[p];unfold stepG.exec;simp only[j,I,Option.elim_some])
      | goto l =>
        simp only[j] at d;cases I:gotoIn l k with
        |none=>grind
        | some k' =>
          simp only[I,Option.elim_some] at d;exact .inr (dj d fun m=>by rw[p];unfold stepG.exec;simp only[j,I,Option.elim_some])
      | region K E Z =>
        simp only[j] at d;cases Z with
        | false =>
          simp only[Bool.not_false,if_true] at d;exact .inr (dj d fun m=>by rw[p];unfold stepG.exec;simp only[j,Bool.not_false,if_true])
        | true =>
          have hq:(Question.order fr.fn K).forced=false:=rfl;have D:∀v:World,(choose (.order fr.fn K)).run P v=.ok (Question.cut (.order fr.fn K) (v.tape v.drawn (.order fr.fn K))) { v with drawn:=v.drawn+1 }:=fun v=>by
           unfold choose;simp only[Sem.run,hq,yH,if_false]
          simp only[D,Bool.not_true,yH,if_false] at d;injection d with e1 e2 e3;subst e1 e2 e3;refine .inr ⟨Nat.le_succ _,rfl,fun m z=>?_⟩;have e:m w.drawn=w.tape w.drawn:=z _ (yb _) (LO _);have e':∀q,m w.drawn q=w.tape w.drawn q:=fun q=>by rw[e]
          rw[p];unfold stepG.exec;simp only[j,D,Bool.not_true,yH,if_false,World.tp,e']
    |_=>exact absurd M (by simp[cD])
 ·cases cs with
  |nil=>grind
  | cons c cs =>
    obtain⟨fd,a2,Q,_⟩:=U.a fr.fn h.a.fn;cases g:(results fd fr.tmps).runT P w #[] with
    | mk R B =>
      cases R with
      | halt x C =>
        obtain⟨_,_,_,e⟩:=dx P true fr c (cs++[ai]) w C O h.a.defers h.a.kind fd x B Q g;grind
      | ok v C =>
        obtain⟨X,W,Y⟩:=pe U h g;rw[Ft,aW P true fr c (cs++[ai]) w C O h.a.defers h.a.kind fd v B Q g] at d;injection d with e1 e2 e3;subst e1 e2 e3;exact .inr ⟨X,W,fun m z=>by rw[Ft,aW P true fr c (cs++[ai]) _ _ O h.a.defers h.a.kind fd v B Q (Y m z)]⟩
end
