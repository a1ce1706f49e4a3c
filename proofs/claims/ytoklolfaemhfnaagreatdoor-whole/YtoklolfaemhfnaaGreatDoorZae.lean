import Derived.Test.YtoklolfaemhfnaaGreatDoorZad
set_option maxRecDepth 100000
set_option maxHeartbeats 8000000
namespace Go.Pm
section
open Go Go.Conc
section
variable {P:Program}{F:Fam}{π:Perm}{w wa:World}
structure Inside (P:Program) (F:Fam) (π:Perm) (w wa:World):Prop where
 sim:Sim F π w wa
 shut:Shut F w
 g:∀f,π.g f=f
 b:π.b=false
theorem Inside.stand(h:Inside P F π w wa)(hP:ProgOk P F){f:FuncId}(hF:F f=true)(hlf:F.leaf f=false){args:Array Value}(hs:∀v∈args,Sup F w.heap.size v):Stand P F π (Frame.enter P f args .normal) [] w wa:=
 ⟨h.sim,h.shut,h.g,h.b,(qc1 hP hF hlf hs).1,(qc1 hP hF hlf hs).2,fun c hc=>by cases hc⟩
theorem Inside.ran(h:Inside P F π w wa){π':Perm}{w' wa':World}(hr:Ran F π π' w wa w' wa'):Inside P F π' w' wa':=
 ⟨hr.sim,hr.shut,fun f=>by rw[hr.rest.1];exact h.g f,hr.rest.2.2.trans h.b⟩
theorem qi9(hP:ProgOk P F){fr:Frame}(h:Stand P F π fr [] w wa){fd:Func}{v:Value}(hres:(results fd fr.tmps).run P w=.ok v w):(results fd (fr.pm π).tmps).run P wa=.ok (v.pm π) wa/\Sup F w.heap.size v:=by
 have hlone:qrf P F Value.pm π w wa ((results fd fr.tmps).over P):=qgs pm_comp _ h.sim h.shut fun σ hσ=>by
  have:=Eqv.results (qcf hP hσ) fd fr.tmps;rw[h.sup σ hσ] at this;exact this.symm
 have hact:∀es a wa' es',(((results fd fr.tmps).over P).act π (Value.pm π)).runT P wa es=(.ok a wa',es')->(results fd (fr.pm π).tmps).runT P wa es=(.ok a wa',es'):=fun es a wa' es' he=>
  qdi ((congrArg (fun s=>Sem.runT P s wa es) (Eqv.results (h.still hP) fd fr.tmps)).trans he)
 have hT:((results fd fr.tmps).runT P w #[]).1=.ok v w:=by rw[Sem.runT_fst];exact hres
 obtain⟨π',wa',d,h1,h2,_,h4⟩:=(hlone #[] #[]).1 v w ((results fd fr.tmps).runT P w #[]).2 (qdh (Prod.ext hT rfl));replace h1:=hact _ _ _ _ h1;have h5:(results fd (fr.pm π).tmps).run P wa=.ok (v.pm π') wa':=by rw[<-Sem.runT_fst P _ _ #[],h1]
 have h6:=qc2 fd _ _ _ _ h5;subst h6;have hv:Sup F w.heap.size v:=h4;rw[qgt h.sim.below h2.sim.below h2.same h2.rest hv] at h5;exact⟨h5,hv⟩
theorem frame_calls(hP:ProgOk P F)(L:LeafLaw P F)(h:Inside P F π w wa)(hT:L.T w)(hTa:L.T wa){f:FuncId}(hF:F f=true)(hlf:F.leaf f=false){args:Array Value}(hs:∀v∈args,Sup F w.heap.size v){R:Ending->World->Prop}(hc:Calls P f args w R)(hR:∀e w',R e w'->∃v,e=.returned v) :
 Calls P f (args.map (Value.pm π)) wa (fun e wa'=>∃v w' π',e=.returned (v.pm π')/\R (.returned v) w'/\Ran F π π' w wa w' wa'/\Sup F w'.heap.size v):=by
 intro cs;obtain⟨e,w',fr',hRe,hcomes,hfn,hleave⟩:=hc [poison];obtain⟨v,rfl⟩:=hR e w' hRe;obtain⟨n,hrun⟩:=hcomes;obtain⟨hm,hd,hk,fd,hfd,hres⟩:=hleave;obtain⟨π',wa',hst,hs',hr⟩:=qoe (rest:=cs) hP L n (h.stand hP hF hlf hs) hT hTa hrun hm;obtain⟨hres',hv⟩:=qi9 hP hs' hres;refine⟨.returned (v.pm π'),wa',fr'.pm π',⟨v,w',π',rfl,hRe,hr,hv⟩,?_,hfn,hm,hd,hk,fd,hfd,hres'⟩;rw[qgv];exact hst
end
def _root_.Go.World.tp(w:World)(τ:Nat->Question->Nat):World:={ w with tape:=τ }
@[simp] theorem tp_tp (w:World) (τ τ':Nat->Question->Nat):(w.tp τ).tp τ'=w.tp τ':=rfl
@[simp] theorem tp_self (w:World):w.tp w.tape=w:=rfl
theorem qdw(P:Program)(w:World)(τ:Nat->Question->Nat)(at_:Addr)(u:TypeId)(k:Addr)(v:Value)(atomic:Bool) :
 (w.tp τ).viewStore P at_ u k v atomic=(w.viewStore P at_ u k v atomic).map (fun r=>(r.1.tp τ,r.2)):=by
 have e:(w.tp τ).seen P at_ u k atomic=w.seen P at_ u k atomic:=rfl;unfold World.viewStore;rw[e];by_cases ht:(!tight P P.depth u)=true
 ·simp only[ht,if_true];rfl
 ·simp only[ht,if_false,yH];cases hs:w.seen P at_ u k atomic with
  |error x=>rfl
  | ok r =>
    obtain⟨c,e,fz,first,like,cells⟩:=r;cases hb:v.bytes? with
    |none=>rfl
    | some bytes =>
      by_cases hl:some bytes.length≠Option.map (fun x=>x.length) like.bytes?
      ·simp only[bind,Except.bind,pure,Except.pure,if_pos hl];rfl
      ·simp only[bind,Except.bind,pure,Except.pure,if_neg hl];generalize hq:(List.foldlM _ c cells:Except String (Array Value))=q;cases q <;> rfl
theorem qfw{P:Program}{w:World}{at_:Addr}{u:TypeId}{k:Addr}{v:Value}{atomic:Bool}{r:World × List Addr}(h:w.viewStore P at_ u k v atomic=.ok r):r.1.drawn=w.drawn/\r.1.tape=w.tape:=by
 have:=qdw P w w.tape at_ u k v atomic;unfold World.viewStore at h;by_cases ht:(!tight P P.depth u)=true
 ·simp only[ht,if_true] at h;cases h
 ·simp only[ht,if_false,yH] at h;cases hs:w.seen P at_ u k atomic with
  |error x=>rw[hs] at h;cases h
  | ok q =>
    obtain⟨c,e,fz,first,like,cells⟩:=q;rw[hs] at h;cases hb:v.bytes? with
    |none=>rw[hb] at h;cases h
    | some bytes =>
      rw[hb] at h;by_cases hl:some bytes.length≠Option.map (fun x=>x.length) like.bytes?
      ·simp only[bind,Except.bind,pure,Except.pure,if_pos hl] at h;cases h
      ·simp only[bind,Except.bind,pure,Except.pure,if_neg hl] at h;generalize hq:(List.foldlM _ c cells:Except String (Array Value))=q at h;cases q with
       |error x=>cases h
       |ok y=>cases h;exact⟨rfl,rfl⟩
def NoSys{α:Type}:Sem α->Prop
 |.pure _ | .halt _=>True
 |.load _ _ k=>∀v,NoSys (k v)
 |.store _ _ _ k | .freeze _ _ k | .setObj _ _ k | .mark _ k=>NoSys k
 |.new _ k=>∀r,NoSys (k r)
 |.shape _ k=>∀r,NoSys (k r)
 |.frozen _ k=>∀r,NoSys (k r)
 |.getObj _ k=>∀r,NoSys (k r)
 |.choose _ k=>∀r,NoSys (k r)
 |.program k=>∀p,NoSys (k p)
 |.sys _ _=>False
theorem qh2{α β:Type}{π:Perm}{h:α->β}(s:Sem α):NoSys (s.act π h):=by
 induction s with
 |pure a=>trivial
 |halt x=>trivial
 |sys c k ih=>trivial
 |store m a v k ih=>exact ih
 |freeze a n k ih=>exact ih
 |setObj r o k ih=>exact ih
 |mark m k ih=>exact ih
 |_=>rename_i ih;exact fun x=>ih _
section
variable {P:Program}{α:Type}
theorem qmf(s:Sem α):NoSys s->∀{w w':World}{es es':Array Event}{a:α},s.runT P w es=(.ok a w',es')->w.drawn<=w'.drawn/\w'.tape=w.tape/\
 ∀τ:Nat->Question->Nat,(∀i,w.drawn<=i->i<w'.drawn->τ i=w.tape i)->s.runT P (w.tp τ) es=(.ok a (w'.tp τ),es'):=by
 induction s with
 | pure a =>
   intro hns w w' es es' b h;simp only[Sem.runT,yau,Result.ok.injEq] at h;obtain⟨⟨rfl,rfl⟩,rfl⟩:=h;exact⟨yb _,rfl,fun τ _=>rfl⟩
 |halt x=>intro hns w w' es es' b h;simp only[Sem.runT,yau] at h;cases h.1
 |program k ih=>intro hns w w' es es' b h;exact ih P (hns P) h
 |mark m k ih=>intro hns w w' es es' b h;exact ih hns h
 | freeze a n k ih =>
   intro hns w w' es es' b h;have:=ih hns (w:=w.freeze a n) h;have e1:(w.freeze a n).drawn=w.drawn:=by unfold World.freeze;split <;> rfl
   have e2:(w.freeze a n).tape=w.tape:=by unfold World.freeze;split <;> rfl
   have e3:∀τ,(w.tp τ).freeze a n=(w.freeze a n).tp τ:=fun τ=>by unfold World.freeze;split <;> rfl
   rw[e1,e2] at this;exact⟨this.1,this.2.1,fun τ hτ=>by have:=this.2.2 τ hτ;rw[<-e3] at this;exact this⟩
 |shape r k ih=>intro hns w w' es es' b h;exact ih _ (hns _) h
 |frozen r k ih=>intro hns w w' es es' b h;exact ih _ (hns _) h
 | new o k ih =>
   intro hns w w' es es' b h;exact ih _ (hns _) (w:={ w with heap:=w.heap.push o }) h
 |sys c k ih=>intro hns;exact hns.elim
 | choose q k ih =>
   intro hns w w' es es' b h;simp only[Sem.runT] at h;by_cases hq:q.forced=true
   ·simp only[hq,if_true] at h;have:=ih 0 (hns 0) h;exact⟨this.1,this.2.1,fun τ hτ=>by simp only[Sem.runT,hq,if_true];exact this.2.2 τ hτ⟩
   ·simp only[hq,yH,if_false] at h;have:=ih _ (hns _) (w:={ w with drawn:=w.drawn+1 }) h;refine⟨yr (Nat.le_succ _) this.1,this.2.1,fun τ hτ=>?_⟩;have e:τ w.drawn=w.tape w.drawn:=hτ _ (yb _) (yg (ybo _) this.1);have h3:=this.2.2 τ (fun i hi hi'=>hτ i (yr (Nat.le_succ _) hi) hi');simp only[Sem.runT,hq,yH,if_false,World.tp] at h3 ⊢;rw[e];exact h3
 | load m a k ih =>
   intro hns w w' es es' b h;have e:∀τ,(w.tp τ).cell? a=w.cell? a:=fun _=>rfl;have e2:∀τ,(w.tp τ).farLoad P a (m == .atomic)=w.farLoad P a (m == .atomic):=fun _=>rfl;simp only[Sem.runT] at h;cases hc:w.cell? a with
   | some v =>
     rw[hc] at h;have:=ih _ (hns _) h;exact⟨this.1,this.2.1,fun τ hτ=>by simp only[Sem.runT,e,hc];exact this.2.2 τ hτ⟩
   | none =>
     rw[hc] at h;cases hf:w.farLoad P a (m == .atomic) with
     | ok r =>
       rw[hf] at h;have:=ih _ (hns _) h;exact⟨this.1,this.2.1,fun τ hτ=>by simp only[Sem.runT,e,hc,e2,hf];exact this.2.2 τ hτ⟩
     |error x=>rw[hf] at h;cases h
 | getObj r k ih =>
   intro hns w w' es es' b h;cases hg:w.heap[r]? with
   |none=>simp only[Sem.runT] at h;rw[hg] at h;cases h
   | some o =>
     by_cases hcell:∃c e f,o=.cells c e f
     ·obtain⟨c,e,f,rfl⟩:=hcell;simp only[Sem.runT] at h;rw[hg] at h;cases h
     ·have hc:∀c e f,o≠.cells c e f:=fun c e f h=>hcell ⟨c,e,f,h⟩;rw[qbv hg hc] at h;have:=ih _ (hns _) h;exact⟨this.1,this.2.1,fun τ hτ=>by rw[qbv (w:=w.tp τ) hg hc];exact this.2.2 τ hτ⟩
 | setObj r o' k ih =>
   intro hns w w' es es' b h;cases hg:w.heap[r]? with
   |none=>simp only[Sem.runT] at h;rw[hg] at h;cases h
   | some o =>
     by_cases hcell:∃c e f,o=.cells c e f
     ·obtain⟨c,e,f,rfl⟩:=hcell;simp only[Sem.runT] at h;rw[hg] at h;cases h
     ·have hc:∀c e f,o≠.cells c e f:=fun c e f h=>hcell ⟨c,e,f,h⟩;rw[qbw hg hc] at h;have:=ih hns (w:={ w with heap:=w.heap.setIfInBounds r o' }) h;exact⟨this.1,this.2.1,fun τ hτ=>by rw[qbw (w:=w.tp τ) hg hc];exact this.2.2 τ hτ⟩
 | store m a v k ih =>
   intro hns w w' es es' b h;by_cases hv:(∀c,v≠.agg c)/\∀c,v≠.tuple c
   ·have e:∀τ,(w.tp τ).cell? a=w.cell? a:=fun _=>rfl;have ez:∀τ,(w.tp τ).frozen? a=w.frozen? a:=fun _=>rfl;rw[qac hv] at h;cases hc:w.cell? a with
    | some u =>
      rw[hc] at h;by_cases hz:w.frozen? a=true
      ·simp only[hz,if_true] at h;cases h
      ·simp only[hz,yH,if_false] at h;have:=ih hns (w:=w.setCell a v) h;exact⟨this.1,this.2.1,fun τ hτ=>by rw[qac hv];simp only[e,ez,hc,hz,yH,if_false];exact this.2.2 τ hτ⟩
    | none =>
      rw[hc] at h;cases hf:w.farStore P a v (m == .atomic) with
      |error x=>rw[hf] at h;cases h
      | ok r =>
        rw[hf] at h;have hr:r.1.drawn=w.drawn/\r.1.tape=w.tape/\∀τ,(w.tp τ).farStore P a v (m == .atomic)=.ok (r.1.tp τ,r.2):=by
         unfold World.farStore at hf ⊢;have eh:∀τ,(w.tp τ).heap=w.heap:=fun _=>rfl;split at hf
         ·rename_i at_ u hv
          cases hs:w.viewStore P at_ u a v (m == .atomic) with
          |error x=>rw[hs] at hf;cases hf
          | ok q =>
            rw[hs] at hf;injection hf with hf;subst hf;obtain⟨e1,e2⟩:=qfw hs;refine⟨e1,e2,fun τ=>?_⟩;rw[eh,hv];simp only[qdw,hs,Except.map]
         ·cases hf
        have:=ih hns h;refine⟨by rw[<-hr.1];exact this.1,this.2.1.trans hr.2.1,fun τ hτ=>?_⟩;rw[qac hv];simp only[e,hc,hr.2.2 τ];exact this.2.2 τ (fun i hi hi'=>by rw[hr.2.1];exact hτ i (by rw[<-hr.1];exact hi) hi')
   ·cases v <;> first|(simp only[Sem.runT,yau] at h;cases h.1)|exact absurd (And.intro (fun c e=>(by cases e)) (fun c e=>(by cases e))) hv
end
def Agree(w w':World)(τ:Nat->Question->Nat):Prop:=∀i,w.drawn<=i->i<w'.drawn->τ i=w.tape i
def Tp(P:Program)(fr:Frame)(cs:List Frame)(w:World)(g':Goroutine)(w':World)(es:Array Event):Prop:=
 w.drawn<=w'.drawn/\w'.tape=w.tape/\∀τ,Agree w w' τ->stepG P true (G fr cs) (w.tp τ)=.go g' (w'.tp τ) es
section
variable {P:Program}{F:Fam}{π:Perm}{fr:Frame}{cs:List Frame}{w wa:World}
theorem qf8(hP:ProgOk P F)(h:Stand P F π fr cs w wa){fd:Func}{v:Value}{w1:World}{ev:Array Event}(hres:(results fd fr.tmps).runT P w #[]=(.ok v w1,ev)) :
 w.drawn<=w1.drawn/\w1.tape=w.tape/\∀τ,Agree w w1 τ->(results fd fr.tmps).runT P (w.tp τ) #[]=(.ok v (w1.tp τ),ev):=by
 have hinv:((results fd fr.tmps).over P).act permB (Value.pm permB)=(results fd fr.tmps).over P:=by
  have:=Eqv.results (qcf hP (qbu F w.heap.size)) fd fr.tmps;rw[h.sup _ (qbu F w.heap.size)] at this;exact this.symm
 have hns:NoSys ((results fd fr.tmps).over P):=by rw[<-hinv];exact qh2 _
 obtain⟨h1,h2,h3⟩:=qmf _ hns (qdh hres);exact⟨h1,h2,fun τ hτ=>qdi (h3 τ hτ)⟩
theorem qp3(hP:ProgOk P F)(h:Stand P F π fr cs w wa){o:Oper}(ok:okOp P F o.op=true)(hnp:∀x,o.op≠.panic x){n:Next}{w1:World}{ev:Array Event}(hres:(execOp fr.eval o).runT P w #[]=(.ok n w1,ev)) :
 w.drawn<=w1.drawn/\w1.tape=w.tape/\∀τ,Agree w w1 τ->(execOp fr.eval o).runT P (w.tp τ) #[]=(.ok n (w1.tp τ),ev):=by
 have hσ:=qbu F w.heap.size;have hinv:((execOp fr.eval o).over P).act permB (Next.pm permB)=(execOp fr.eval o).over P:=
  (Eqv.execOp (qcf hP hσ) (F:=F) (ρ:=fr.eval) (ρ':=fr.eval) (fun x hx=>(qbx h.sup hx _ hσ).symm) hσ.2.1 (fun x hx fn a b e=>by
   obtain⟨f,rfl,hF⟩:=qao hP (qbx h.sup hx) e;obtain⟨fd,c,h1,h2,_⟩:=hP.fn f hF;exact⟨f,fd,rfl,hσ.2.1 f hF,h1,by rw[h2];rfl⟩) ok hnp).symm
 have hns:NoSys ((execOp fr.eval o).over P):=by rw[<-hinv];exact qh2 _
 obtain⟨h1,h2,h3⟩:=qmf _ hns (qdh hres);exact⟨h1,h2,fun τ hτ=>qdi (h3 τ hτ)⟩
theorem qaz{g g':Goroutine}{w':World}{es:Array Event}(hl:GStep.go g w #[]=.go g' w' es)(ha:∀τ,stepG P true (G fr cs) (w.tp τ)=.go g (w.tp τ) #[]):Tp P fr cs w g' w' es:=by
 injection hl with e1 e2 e3;subst e1 e2 e3;exact⟨yb _,rfl,fun τ _=>ha τ⟩
theorem qp4(hP:ProgOk P F)(h:Stand P F π fr cs w wa)(hns:¬(fr.mode=.returning/\cs=[])){g':Goroutine}{w':World}{es:Array Event}(hl:stepG P true (G fr (cs++[poison])) w=.go g' w' es) :
 Doomed g'\/Tp P fr (cs++[poison]) w g' w' es:=by
 rcases h.top.mode with hm|hm
 ·have hx:∀v,stepG P true (G fr (cs++[poison])) v=stepG.exec P true true fr (cs++[poison]) none v:=fun v=>qcz P true fr _ v hm;rw[hx] at hl;have hr:=h.top.round;unfold stepG.exec at hl;cases ht:fr.todo with
  |nil=>simp only[ht,hr] at hl;exact .inr (qaz hl fun τ=>by rw[hx];unfold stepG.exec;simp only[ht,hr];rfl)
  | cons it k =>
    have hit:okItem P F it=true:=h.top.todo it (by rw[ht];simp);cases it with
    |inBlock id=>simp only[ht] at hl;exact .inr (qaz hl fun τ=>by rw[hx];unfold stepG.exec;simp only[ht])
    |inScope c=>simp only[ht] at hl;exact .inr (qaz hl fun τ=>by rw[hx];unfold stepG.exec;simp only[ht])
    |inLoop c=>simp only[ht] at hl;exact .inr (qaz hl fun τ=>by rw[hx];unfold stepG.exec;simp only[ht])
    | inRegion ops todo =>
      cases todo with
      |nil=>simp only[ht] at hl;exact .inr (qaz hl fun τ=>by rw[hx];unfold stepG.exec;simp only[ht])
      | cons i r =>
        simp only[ht] at hl;by_cases hw:((ops[i]?).map (Region.wanted · (yielded ops fr.tmps))).getD false=true
        ·simp only[hw,if_true] at hl;have hxo:∀v,stepG P true (G fr (cs++[poison])) v=stepG.oper P true fr (cs++[poison]) none v:=fun v=>by
          rw[hx];unfold stepG.exec;simp only[ht,hw,if_true]
         unfold stepG.oper Frame.oper? at hl;simp only[ht] at hl;cases ho:ops[i]? with
         |none=>simp only[ho] at hl;cases hl
         | some o =>
           simp only[ho,hr] at hl;have hxa:∀v,stepG P true (G fr (cs++[poison])) v=stepG.apply P true fr (cs++[poison]) none (execOp fr.eval o) v:=fun v=>by
            rw[hxo];unfold stepG.oper Frame.oper?;simp only[ht,ho,hr]
           have ok:okOp P F o.op=true:=yad.1 hit o (yaj ho);by_cases hpan:∃x,o.op=.panic x
           ·obtain⟨x,hxp⟩:=hpan;obtain⟨y,w1,ev,hres,hy⟩:=qcq (P:=P) (ρ:=fr.eval) hxp w #[];rcases hy with ⟨v,rfl⟩|⟨u,rfl⟩|⟨u,rfl,hu⟩
            ·rw[qau P fr _ w _ h.top.kind v w1 ev hres] at hl;injection hl with e1 e2 e3;have hraise:fr.raise [{ v,recovered:=false }]={ fr with mode:=.panicking [{ v,recovered:=false }] }:=by unfold Frame.raise;rw[hm]
             rw[hraise] at e1;exact .inl ⟨{ fr with mode:=.panicking [{ v,recovered:=false }] },cs,_,e1.symm,rfl,h.top.defers,fun c hc=>(h.call c hc).1.defers⟩
            ·obtain⟨_,_,_,e⟩:=qav P fr (cs++[poison]) w _ h.top.kind u w1 ev hres;rw[e] at hl;cases hl
            ·obtain⟨_,_,_,e⟩:=qaw P fr (cs++[poison]) w _ h.top.kind u w1 ev hu hres;rw[e] at hl;cases hl
           obtain⟨hrun,_⟩:=qgu hP h ok fun x e=>hpan ⟨x,e⟩;cases hres:(execOp fr.eval o).runT P w #[] with
           | mk res ev =>
             cases res with
             | halt x w1 =>
               rcases qen hrun hres with ⟨v,rfl⟩|⟨u,rfl⟩|⟨u,rfl,hu⟩
               ·rw[qau P fr _ w _ h.top.kind v w1 ev hres] at hl;injection hl with e1 e2 e3;have hraise:fr.raise [{ v,recovered:=false }]={ fr with mode:=.panicking [{ v,recovered:=false }] }:=by unfold Frame.raise;rw[hm]
                rw[hraise] at e1;exact .inl ⟨{ fr with mode:=.panicking [{ v,recovered:=false }] },cs,_,e1.symm,rfl,h.top.defers,fun c hc=>(h.call c hc).1.defers⟩
               ·obtain⟨_,_,_,e⟩:=qav P fr (cs++[poison]) w _ h.top.kind u w1 ev hres;rw[e] at hl;cases hl
               ·obtain⟨_,_,_,e⟩:=qaw P fr (cs++[poison]) w _ h.top.kind u w1 ev hu hres;rw[e] at hl;cases hl
             | ok n w1 =>
               obtain⟨t1,t2,t3⟩:=qp3 hP h ok (fun x e=>hpan ⟨x,e⟩) hres;have hkind:=qi6 ok (fun x hx fn a b e=>by
                obtain⟨f,rfl,hF⟩:=qao hP (qbx h.sup hx) e;obtain⟨fd,c,q1,q2,q4⟩:=hP.fn f hF;exact⟨f,fd,rfl,q1,by rw[q2];rfl,q4⟩) hres
               right;rcases hkind with ⟨v,rfl⟩|rfl|⟨f,args,rfl⟩
               ·rw[qa7 P fr _ w _ h.top.kind v w1 ev hres] at hl;injection hl with e1 e2 e3;subst e1 e2 e3;exact⟨t1,t2,fun τ hτ=>by rw[hxa,qa7 P fr _ _ _ h.top.kind v _ ev (t3 τ hτ)]⟩
               ·rw[qbl P fr _ w _ h.top.kind w1 ev hres] at hl;injection hl with e1 e2 e3;subst e1 e2 e3;exact⟨t1,t2,fun τ hτ=>by rw[hxa,qbl P fr _ _ _ h.top.kind _ ev (t3 τ hτ)]⟩
               ·rw[qat P fr _ w ops i r k _ ht h.top.kind f args w1 ev hres] at hl;injection hl with e1 e2 e3;subst e1 e2 e3;exact⟨t1,t2,fun τ hτ=>by rw[hxa,qat P fr _ _ ops i r k _ ht h.top.kind f args _ ev (t3 τ hτ)]⟩
        ·simp only[hw,yH,if_false] at hl;exact .inr (qaz hl fun τ=>by rw[hx];unfold stepG.exec;simp only[ht,hw,yH,if_false])
    | code c =>
      cases c with
      |skip=>simp only[ht] at hl;exact .inr (qaz hl fun τ=>by rw[hx];unfold stepG.exec;simp only[ht])
      |label l=>simp only[ht] at hl;exact .inr (qaz hl fun τ=>by rw[hx];unfold stepG.exec;simp only[ht])
      |seq a b=>simp only[ht] at hl;exact .inr (qaz hl fun τ=>by rw[hx];unfold stepG.exec;simp only[ht])
      |block id c=>simp only[ht] at hl;exact .inr (qaz hl fun τ=>by rw[hx];unfold stepG.exec;simp only[ht])
      |loop c=>simp only[ht] at hl;exact .inr (qaz hl fun τ=>by rw[hx];unfold stepG.exec;simp only[ht])
      |scope c=>simp only[ht] at hl;exact .inr (qaz hl fun τ=>by rw[hx];unfold stepG.exec;simp only[ht])
      |ret=>simp only[ht,hr] at hl;exact .inr (qaz hl fun τ=>by rw[hx];unfold stepG.exec;simp only[ht,hr];rfl)
      |refuse why=>simp only[ht] at hl;cases hl
      |rangeFunc f ps a b=>exact absurd hit (by simp[okItem,qrn])
      | cond c a b =>
        simp only[ht] at hl;cases he:fr.eval c with
        | bool t =>
          simp only[he] at hl;exact .inr (qaz hl fun τ=>by rw[hx];unfold stepG.exec;simp only[ht,he])
        |_=>rw[he] at hl;cases hl
      | exit id =>
        simp only[ht] at hl;cases hex:exitTo id k with
        |none=>simp only[hex,hr] at hl;cases hl
        | some k' =>
          simp only[hex,Option.elim_some] at hl;exact .inr (qaz hl fun τ=>by rw[hx];unfold stepG.exec;simp only[ht,hex,Option.elim_some])
      | goto l =>
        simp only[ht] at hl;cases hex:gotoIn l k with
        |none=>simp only[hex,hr] at hl;cases hl
        | some k' =>
          simp only[hex,Option.elim_some] at hl;exact .inr (qaz hl fun τ=>by rw[hx];unfold stepG.exec;simp only[ht,hex,Option.elim_some])
      | region id ops draw =>
        simp only[ht] at hl;cases draw with
        | false =>
          simp only[Bool.not_false,if_true] at hl;exact .inr (qaz hl fun τ=>by rw[hx];unfold stepG.exec;simp only[ht,Bool.not_false,if_true])
        | true =>
          have hq:(Question.order fr.fn id).forced=false:=rfl;have hrun:∀v:World,(choose (.order fr.fn id)).run P v=.ok (Question.cut (.order fr.fn id) (v.tape v.drawn (.order fr.fn id))) { v with drawn:=v.drawn+1 }:=fun v=>by
           unfold choose;simp only[Sem.run,hq,yH,if_false]
          simp only[hrun,Bool.not_true,yH,if_false] at hl;injection hl with e1 e2 e3;subst e1 e2 e3;refine .inr ⟨Nat.le_succ _,rfl,fun τ hτ=>?_⟩;have e:τ w.drawn=w.tape w.drawn:=hτ _ (yb _) (ybo _);have e':∀q,τ w.drawn q=w.tape w.drawn q:=fun q=>by rw[e]
          rw[hx];unfold stepG.exec;simp only[ht,hrun,Bool.not_true,yH,if_false,World.tp,e']
    |_=>exact absurd hit (by simp[okItem])
 ·cases cs with
  |nil=>exact absurd ⟨hm,rfl⟩ hns
  | cons c cs =>
    obtain⟨fd,body,hfd,_⟩:=hP.fn fr.fn h.top.fn;cases hres:(results fd fr.tmps).runT P w #[] with
    | mk res ev =>
      cases res with
      | halt x w1 =>
        obtain⟨_,_,_,e⟩:=qai P true fr c (cs++[poison]) w w1 hm h.top.defers h.top.kind fd x ev hfd hres;rw[yah,e] at hl;cases hl
      | ok v w1 =>
        obtain⟨t1,t2,t3⟩:=qf8 hP h hres;rw[yah,qk P true fr c (cs++[poison]) w w1 hm h.top.defers h.top.kind fd v ev hfd hres] at hl;injection hl with e1 e2 e3;subst e1 e2 e3;exact .inr ⟨t1,t2,fun τ hτ=>by rw[yah,qk P true fr c (cs++[poison]) _ _ hm h.top.defers h.top.kind fd v ev hfd (t3 τ hτ)]⟩
end
structure Ghost (P:Program) (F:Fam) (fr:Frame) (cs:List Frame) (w:World):Prop where
 low:F.gs+5<=w.heap.size
 shut:Shut F w
 top:FrameOk P F fr
 sup:FrSup F w.heap.size fr
 call:∀c∈cs,FrameOk P F c/\FrSup F w.heap.size c/\c.mode=.run/\∃ops i rest k,c.todo=.inRegion ops (i::rest)::k
section
variable {P:Program}{F:Fam}{π:Perm}{fr:Frame}{cs:List Frame}{w wa:World}
theorem Ghost.stand(h:Ghost P F fr cs w):Stand P F Perm.id fr cs w w:=
 ⟨⟨fun r o _ hr=>by rw[qeg Perm.id ⟨fun _=>rfl,fun _=>rfl,fun _=>rfl,rfl⟩];exact hr,fun _ _=>rfl,h.low,h.low,rfl,fun _ _=>rfl⟩,h.shut,fun _=>rfl,rfl,h.top,h.sup,h.call⟩
theorem Stand.ghost(h:Stand P F π fr cs w wa):Ghost P F fr cs w:=⟨h.sim.low,h.shut,h.top,h.sup,h.call⟩
theorem Ghost.tp(h:Ghost P F fr cs w)(τ:Nat->Question->Nat):Ghost P F fr cs (w.tp τ):=⟨h.low,⟨h.shut.obj⟩,h.top,h.sup,h.call⟩
def Cls(P:Program)(F:Fam)(L:LeafLaw P F)(fr:Frame)(cs:List Frame)(w:World):Prop:=
 L.T w/\(Ghost P F fr cs w\/∃c cs0 ops i r k kd x fra,cs=c::cs0/\Ghost P F c cs0 w/\c.todo=.inRegion ops (i::r)::k/\Slides P L.T F.gs fr fra (.int kd x))
def Returns(P:Program)(Q:Frame->World->Prop)(fr:Frame)(cs:List Frame)(w:World):Prop:=
 ∃n fr' w',runN P n (lone fr (cs++[poison]) w)=.next (lone fr' [poison] w')/\fr'.mode=.returning/\Q fr' w'
theorem Cls.tp{L:LeafLaw P F}(h:Cls P F L fr cs w)(τ:Nat->Question->Nat):Cls P F L fr cs (w.tp τ):=by
 obtain⟨hT,h⟩:=h;refine⟨L.loc w (w.tp τ) (fun _ _=>rfl) hT,?_⟩;rcases h with h|⟨c,cs0,ops,i,r,k,kd,x,fra,h1,h2,h3,h4⟩
 ·exact .inl (h.tp τ)
 ·exact .inr ⟨c,cs0,ops,i,r,k,kd,x,fra,h1,h2.tp τ,h3,h4⟩
theorem qeu{n:Nat}{cs':List Frame}{fr fr':Frame}{w w':World}(hne:cs'≠[]\/fr.mode≠.returning)(hm:fr'.mode=.returning)(h:runN P n (lone fr (cs'++[poison]) w)=.next (lone fr' [poison] w')):∃m,n=m+1:=by
 cases n with
 | zero =>
   injection h with h;obtain⟨rfl,hcs,_⟩:=qaj h;cases cs' with
   |nil=>rcases hne with h|h;exact absurd rfl h;exact absurd hm h
   |cons c cs=>simp at hcs
 |succ m=>exact⟨m,rfl⟩
theorem qgx(hP:ProgOk P F)(L:LeafLaw P F){Q:Frame->World->Prop}(h:Cls P F L fr cs w)(hns:¬(fr.mode=.returning/\cs=[]))(hret:Returns P Q fr cs w) :
 ∃fr' cs' w' es,stepG P true (G fr (cs++[poison])) w=.go (G fr' (cs'++[poison])) w' es/\Cls P F L fr' cs' w'/\Returns P Q fr' cs' w'/\Tp P fr (cs++[poison]) w (G fr' (cs'++[poison])) w' es:=by
 obtain⟨hT,h⟩:=h;obtain⟨n,fr0,w0,hrun,hm,hQ⟩:=hret;rcases h with h|⟨c,cs0,ops,i,r,k,kd,x,fra,rfl,hc,ht,hsl⟩
 ·have hne:cs≠[]\/fr.mode≠.returning:=by
   by_cases hc:cs=[]
   ·exact .inr fun e=>hns ⟨e,hc⟩
   ·exact .inl hc
  obtain⟨m,rfl⟩:=qeu hne hm hrun;have hst:=h.stand;rw[qv] at hrun;rcases qf7 hP hst hns with ⟨g1,w1,es,e⟩|⟨o,w1,es,e⟩
  ·have htp:=qp4 hP hst hns e;rcases qgw (rest:=[]) hP hst hns e with hd|⟨fr1,cs1,π1,wa1,es1,rfl,_,hs,hr,_⟩|⟨f,args,π1,wa1,es1,hlf,hF,rfl,_,hs,_,⟨ops,i,r,k,ht⟩,hr,_⟩
   ·obtain⟨fr1,cs1,chain,rfl,d1,d2,d3⟩:=hd;rw[step_lone_go (P:=P) (fr':=fr1) (cs':=cs1++[poison]) (w':=w1) (by have:stepG P true { frame:=fr,callers:=cs++[poison],status:=.running,dying:=none } w=_:=e;rw[this];rfl)] at hrun;exact absurd hm (qcg m d1 d2 d3 hrun)
   ·rw[step_lone_go (P:=P) (fr':=fr1) (cs':=cs1++[poison]) (w':=w1) (by have:stepG P true { frame:=fr,callers:=cs++[poison],status:=.running,dying:=none } w=_:=e;rw[this];rfl)] at hrun;refine⟨fr1,cs1,w1,es,e,⟨hr.tw L hT,.inl hs.ghost⟩,⟨m,fr0,w0,hrun,hm,hQ⟩,htp.resolve_left ?_⟩;rintro⟨fr2,cs2,chain,e2,d1,d2,d3⟩;have e3:fr1=fr2/\cs1++[poison]=cs2++[poison]:=by injection e2 with a b;exact⟨a,b⟩
    rw[e3.1,e3.2] at hrun;exact absurd hm (qcg m d1 d2 d3 hrun)
   ·rw[step_lone_go (P:=P) (fr':=Frame.enter P f args .normal) (cs':=fr::(cs++[poison])) (w':=w1) (by have:stepG P true { frame:=fr,callers:=cs++[poison],status:=.running,dying:=none } w=_:=e;rw[this];rfl)] at hrun;rcases L.law f args hlf hF with ⟨kd,x,hsl⟩|hst
    ·refine⟨Frame.enter P f args .normal,fr::cs,w1,es,e,⟨hr.tw L hT,.inr ⟨fr,cs,ops,i,r,k,kd,x,_,rfl,hs.ghost,ht,hsl Perm.id⟩⟩,⟨m,fr0,w0,hrun,hm,hQ⟩,htp.resolve_left ?_⟩;rintro⟨fr2,cs2,chain,e2,d1,d2,d3⟩;have e3:Frame.enter P f args .normal=fr2:=by injection e2
     rw[<-e3] at d1;cases d1
    ·exact absurd hrun (qet hst m (hr.tw L hT) (by simp))
  ·rw[step_lone_ended (P:=P) (o:=o) (w':=w1) (by have:stepG P true { frame:=fr,callers:=cs++[poison],status:=.running,dying:=none } w=_:=e;rw[this];rfl)] at hrun;cases hrun
 ·obtain⟨m,rfl⟩:=qeu (.inl (by simp)) hm hrun;rw[qv] at hrun;cases hsl with
  | @ret _ _ _ fn _ hmr hd hk hf hr =>
    have e:=qk P true fr c (cs0++[poison]) w w hmr hd hk fn _ #[] hf (hr w hT);rw[step_lone_go (P:=P) (fr:=fr) (cs:=(c::cs0)++[poison]) (w:=w) (fr':=c.finish (.int kd x)) (cs':=cs0++[poison]) (w':=w) (by have:stepG P true { frame:=fr,callers:=c::(cs0++[poison]),status:=.running,dying:=none } w=_:=e;simp only[yah];rw[this];rfl)] at hrun;exact⟨c.finish (.int kd x),cs0,w,_,e,⟨hT,.inl (hc.stand.finish ht (v:=.int kd x) (fun σ _=>by simp)).ghost⟩,⟨m,fr0,w0,hrun,hm,hQ⟩,yb _,rfl,fun τ _=>
     qk P true fr c (cs0++[poison]) (w.tp τ) (w.tp τ) hmr hd hk fn _ #[] hf (hr _ (L.loc w (w.tp τ) (fun _ _=>rfl) hT))⟩
  | @step _ _ fr1 fra1 _ es _ _ hs _ he hsl' =>
    have e:=hs w true ((c::cs0)++[poison]) hT;rw[step_lone_go (P:=P) (fr:=fr) (cs:=(c::cs0)++[poison]) (w:=w) (fr':=fr1) (cs':=(c::cs0)++[poison]) (w':=w) (by have:stepG P true { frame:=fr,callers:=(c::cs0)++[poison],status:=.running,dying:=none } w=_:=e;rw[this];rfl)] at hrun;exact⟨fr1,c::cs0,w,es,e,⟨hT,.inr ⟨c,cs0,ops,i,r,k,kd,x,fra1,rfl,hc,ht,hsl'⟩⟩,⟨m,fr0,w0,hrun,hm,hQ⟩,yb _,rfl,fun τ _=>hs (w.tp τ) true _ (L.loc w (w.tp τ) (fun _ _=>rfl) hT)⟩
theorem qh3(hP:ProgOk P F){Q:Frame->World->Prop}(h:Ghost P F fr [] w)(hm:fr.mode=.returning)(hret:Returns P Q fr [] w):Q fr w:=by
 obtain⟨n,fr0,w0,hrun,_,hQ⟩:=hret;obtain⟨fd,body,hfd,_⟩:=hP.fn fr.fn h.top.fn;cases n with
 | zero =>
   injection hrun with hrun;obtain⟨rfl,_,rfl⟩:=qaj hrun;exact hQ
 |succ n=>exact absurd hrun (qh0 hm h.top.defers h.top.kind hfd n)
def Ext(w:World)(τ:Nat->Question->Nat):Prop:=∀i,i<w.drawn->τ i=w.tape i
inductive Ends (P:Program) (C:Frame->List Frame->World->Prop) (Q:Frame->World->Prop):Frame->List Frame->World->Prop
 |stop {fr:Frame}{w:World} (hc:C fr [] w) (hm:fr.mode=.returning) (hQ:Q fr w):Ends P C Q fr [] w
 |step {fr:Frame}{cs:List Frame}{w:World} (hc:C fr cs w) (hns:¬(fr.mode=.returning/\cs=[]))
  (hgo:∀τ,Ext w τ->∃fr' cs' w' es,stepG P true (G fr (cs++[poison])) (w.tp τ)=.go (G fr' (cs'++[poison])) w' es)
  (h:∀τ,Ext w τ->∀fr' cs' w' es,stepG P true (G fr (cs++[poison])) (w.tp τ)=.go (G fr' (cs'++[poison])) w' es->Ends P C Q fr' cs' w'):Ends P C Q fr cs w
theorem bar(hP:ProgOk P F)(L:LeafLaw P F){Q:Frame->World->Prop}(h:Cls P F L fr cs w)(hg:∀τ,Ext w τ->Returns P Q fr cs (w.tp τ)):Ends P (Cls P F L) Q fr cs w:=by
 apply Classical.byContradiction;intro hne
 let St:=Frame × List Frame × World
 let Bad:St->Prop:=fun s=>Cls P F L s.1 s.2.1 s.2.2/\(∀τ,Ext s.2.2 τ->Returns P Q s.1 s.2.1 (s.2.2.tp τ))/\¬Ends P (Cls P F L) Q s.1 s.2.1 s.2.2
 have nostop:∀s:St,Bad s->¬(s.1.mode=.returning/\s.2.1=[]):=by
  rintro⟨fr,cs,w⟩ ⟨hcl,hg,hn⟩ ⟨hm,hcs⟩;simp only at hm hcs hg hn hcl;subst hcs;have hc:=hcl.2;rcases hc with hc|⟨c,cs0,_,_,_,_,_,_,_,e,_⟩
  ·exact hn (.stop hcl hm (qh3 hP hc hm (by have:=hg w.tape fun _ _=>rfl;simpa using this)))
  ·cases e
 have next:∀s:{s:St // Bad s},∃s':{s:St // Bad s},s.1.2.2.drawn<=s'.1.2.2.drawn/\(∀i,i<s.1.2.2.drawn->s'.1.2.2.tape i=s.1.2.2.tape i)/\
  ∃es,∀τ:Nat->Question->Nat,(∀i,i<s'.1.2.2.drawn->τ i=s'.1.2.2.tape i)->stepG P true (G s.1.1 (s.1.2.1++[poison])) (s.1.2.2.tp τ)=.go (G s'.1.1 (s'.1.2.1++[poison])) (s'.1.2.2.tp τ) es:=by
  rintro⟨⟨fr,cs,w⟩,hb⟩;have hns:=nostop _ hb;obtain⟨hc,hg,hn⟩:=hb;simp only at hns hc hg hn ⊢;have:∃τ,Ext w τ/\∃fr' cs' w' es,stepG P true (G fr (cs++[poison])) (w.tp τ)=.go (G fr' (cs'++[poison])) w' es/\¬Ends P (Cls P F L) Q fr' cs' w':=by
   apply Classical.byContradiction;intro hx;refine hn (.step hc hns (fun τ hτ=>?_) fun τ hτ fr' cs' w' es he=>Classical.byContradiction fun hE=>hx ⟨τ,hτ,fr',cs',w',es,he,hE⟩);obtain⟨fr',cs',w',es,he,_⟩:=qgx hP L (hc.tp τ) hns (hg τ hτ);exact⟨fr',cs',w',es,he⟩
  obtain⟨τ,hτ,fr0,cs0,w0,es0,he0,hno⟩:=this;obtain⟨fr',cs',w',es,he,hc',_,t1,t2,t3⟩:=qgx hP L (hc.tp τ) hns (hg τ hτ);have hsame:fr0=fr'/\cs0=cs'/\w0=w':=by
   rw[he0] at he;injection he with a b _;injection a with a1 a2;exact⟨a1,yaH a2,b⟩
  obtain⟨rfl,rfl,rfl⟩:=hsame;refine⟨⟨⟨fr0,cs0,w0⟩,hc',fun τ' hτ'=>?_,hno⟩,t1,fun i hi=>?_,es,fun τ' hτ'=>?_⟩
  ·
   have hag:Agree (w.tp τ) w0 τ':=fun i _ hi'=>by rw[hτ' i hi',t2]
   have hex:Ext w τ':=fun i hi=>by
    have hi':i<w0.drawn:=yg hi t1;rw[hτ' i hi',t2];exact hτ i hi
   obtain⟨fr2,cs2,w2,es2,he2,_,hr2,_⟩:=qgx hP L (hc.tp τ') hns (hg τ' hex);have hst:=t3 τ' hag;rw[tp_tp] at hst;rw[hst] at he2;injection he2 with a b _;have:fr0=fr2/\cs0++[poison]=cs2++[poison]:=by injection a with a1 a2;exact⟨a1,a2⟩
   obtain⟨rfl,hcs⟩:=this;have hcs':cs0=cs2:=yaH hcs;subst hcs' b;exact hr2
  ·show w0.tape i=w.tape i;rw[t2];exact hτ i hi
  ·have:=t3 τ' (fun i _ hi'=>by rw[hτ' i hi',t2]);rw[tp_tp] at this;exact this
 let f:{s:St // Bad s}->{s:St // Bad s}:=fun s=>Classical.choose (next s)
 have hf:=fun s=>Classical.choose_spec (next s)
 let sq:Nat->{s:St // Bad s}:=fun n=>Nat.rec ⟨⟨fr,cs,w⟩,h,hg,hne⟩ (fun _ s=>f s) n
 have hs0:(sq 0).1=⟨fr,cs,w⟩:=rfl;have hlink:∀n,(sq (n+1))=f (sq n):=fun _=>rfl;have hmono:∀n m,(sq n).1.2.2.drawn<=(sq (n+m)).1.2.2.drawn:=by
  intro n m;induction m with
  |zero=>exact yb _
  |succ m ih=>exact yr ih (by rw[show n+(m+1)=n+m+1 from rfl,hlink];exact(hf (sq (n+m))).1)
 have hsame:∀n m i,i<(sq n).1.2.2.drawn->(sq (n+m)).1.2.2.tape i=(sq n).1.2.2.tape i:=by
  intro n m i hi;induction m with
  |zero=>rfl
  | succ m ih =>
    rw[show n+(m+1)=n+m+1 from rfl,hlink,(hf (sq (n+m))).2.1 i (yg hi (hmono n m))];exact ih
 let T:Nat->Question->Nat:=fun i=>@dite _ (∃n,i<(sq n).1.2.2.drawn) (Classical.propDecidable _) (fun hx=>(sq (Classical.choose hx)).1.2.2.tape i) fun _=>w.tape i
 have hTn:∀n i,i<(sq n).1.2.2.drawn->T i=(sq n).1.2.2.tape i:=by
  intro n i hi;have hx:∃n,i<(sq n).1.2.2.drawn:=⟨n,hi⟩;have e:T i=(sq (Classical.choose hx)).1.2.2.tape i:=by simp only[T,dif_pos hx]
  rw[e];have hc:=Classical.choose_spec hx;generalize Classical.choose hx=m at hc;rcases Nat.le_total n m with hle|hle
  ·obtain⟨q,rfl⟩:=Nat.exists_eq_add_of_le hle;exact hsame n q i hi
  ·obtain⟨q,rfl⟩:=Nat.exists_eq_add_of_le hle;exact(hsame m q i hc).symm
 have hrun:∀n k,runN P n (lone (sq k).1.1 ((sq k).1.2.1++[poison]) ((sq k).1.2.2.tp T))=.next (lone (sq (k+n)).1.1 ((sq (k+n)).1.2.1++[poison]) ((sq (k+n)).1.2.2.tp T)):=by
  intro n;induction n with
  |zero=>intro k;rfl
  | succ n ih =>
    intro k;obtain⟨es,he⟩:=(hf (sq k)).2.2;have hst:=he T (fun i hi=>hTn (k+1) i hi);rw[qv,step_lone_go (P:=P) (fr':=(sq (k+1)).1.1) (cs':=(sq (k+1)).1.2.1++[poison]) (w':=(sq (k+1)).1.2.2.tp T) (by
     have:stepG P true { frame:=(sq k).1.1,callers:=(sq k).1.2.1++[poison],status:=.running,dying:=none } ((sq k).1.2.2.tp T)=_:=hst;rw[this];rfl)]
    have:=ih (k+1);rw[show k+1+n=k+(n+1) from by omega] at this;exact this
 obtain⟨n,fr',w',hr,hm,_⟩:=hg T (fun i hi=>hTn 0 i hi);have h2:=hrun n 0;rw[show (0:Nat)+n=n from yS n] at h2;have h3:Stepped.next (lone fr' [poison] w')=.next (lone (sq n).1.1 ((sq n).1.2.1++[poison]) ((sq n).1.2.2.tp T)):=hr.symm.trans h2;injection h3 with h3;obtain⟨e1,e2,_⟩:=qaj h3;refine nostop _ (sq n).2 ⟨by rw[<-e1];exact hm,?_⟩;cases hcs:(sq n).1.2.1 with
 |nil=>rfl
 |cons c cs=>rw[hcs] at e2;simp at e2
end
abbrev _root_.Go.World.eo(w:World):Os × Array (Nat × ByteArray):=(w.os,w.output)
theorem eo_of{w w':World}(h:w'.os=w.os)(k:w'.output=w.output):w'.eo=w.eo:=by
 show (w'.os,w'.output)=(w.os,w.output);rw[h,k]
structure Rely (O K:Nat->Prop) (A:World->Prop) (w wB:World):Prop where
 own:∀b,O b\/K b->wB.heap[b]?=w.heap[b]?
 size:w.heap.size<=wB.heap.size
 os:wB.eo=w.eo
 live:A w->A wB
theorem Rely.refl(O K:Nat->Prop)(A:World->Prop)(w:World):Rely O K A w w:=⟨fun _ _=>rfl,yb _,rfl,id⟩
theorem Rely.trans{O K:Nat->Prop}{A:World->Prop}{a b c:World}(h:Rely O K A a b)(k:Rely O K A b c):Rely O K A a c:=⟨fun x hx=>(k.own x hx).trans (h.own x hx),yr h.size k.size,k.os.trans h.os,k.live ∘ h.live⟩
def Ev(O K:Nat->Prop)(e:Event):Prop:=
 match e.loc with
 |.cell a=>O a.block\/(K a.block/\e.write=false/\e.sync=false)
 |.obj b=>O b/\e.sync=false
 |.mark m=>m=.noRoom
 |.output=>True
 |.goroutines=>False
def grow(O:Nat->Prop)(w w':World)(b:Nat):Prop:=O b\/(w.heap.size<=b/\b<w'.heap.size)
theorem grow_same(O:Nat->Prop){w w':World}(h:w'.heap.size=w.heap.size):grow O w w'=O:=by
 funext b;apply propext;constructor
 ·rintro(h1|⟨h1,h2⟩)
  ·exact h1
  ·omega
 ·exact .inl
structure Guar (O K:Nat->Prop) (X:Event->Prop) (w w':World) (es:Array Event):Prop where
 frame:∀b,b<w.heap.size->¬O b->w'.heap[b]?=w.heap[b]?
 size:w.heap.size<=w'.heap.size
 tape:w'.tape=w.tape
 os:w'.eo=w.eo
 evs:∀e∈es,Ev (grow O w w') K e\/X e
inductive Way (P:Program) (main:Bool) (K:Nat->Prop) (A:World->Prop) (X:Event->Prop) (Stop:(Nat->Prop)->Goroutine->World->Prop):(Nat->Prop)->Goroutine->World->Prop
 |stop {O:Nat->Prop}{g:Goroutine}{w:World} (h:∀wB,Rely O K A w wB->Stop O g wB):Way P main K A X Stop O g w
 |step {O:Nat->Prop}{g:Goroutine}{w:World} (hrun:g.status=.running) (hgo:∀wB,Rely O K A w wB->∃g' w' es,stepG P main g wB=.go g' w' es/\Guar O K X wB w' es)
  (h:∀wB g' w' es,Rely O K A w wB->stepG P main g wB=.go g' w' es->Way P main K A X Stop (grow O wB w') g' w'):Way P main K A X Stop O g w
section
variable {P:Program}{main:Bool}{K:Nat->Prop}{A:World->Prop}{X:Event->Prop}{Stop Stop':(Nat->Prop)->Goroutine->World->Prop}{O:Nat->Prop}{g:Goroutine}{w wB:World}
theorem Way.rely(h:Way P main K A X Stop O g w)(hr:Rely O K A w wB):Way P main K A X Stop O g wB:=by
 cases h with
 |stop h=>exact .stop fun wC h₂=>h wC (hr.trans h₂)
 |step hrun hgo h=>exact .step hrun (fun wC h₂=>hgo wC (hr.trans h₂)) fun wC g' w' es h₂=>h wC g' w' es (hr.trans h₂)
theorem Way.bind(h:Way P main K A X Stop' O g w)(k:∀O g w,Stop' O g w->Way P main K A X Stop O g w):Way P main K A X Stop O g w:=by
 induction h with
 |stop h=>exact k _ _ _ (h _ (Rely.refl _ _ _ _))
 |step hrun hgo _ ih=>exact .step hrun hgo ih
theorem Way.of_goes{R:World->World->Prop}{D:World->World->Array Event->Prop}{S:Goroutine->World->Prop}(hR:∀w wB,Rely O K A w wB->R w wB)(hD:∀w w' es,D w w' es->Guar O K X w w' es/\w'.heap.size=w.heap.size)
 (k:∀g w,(∀wB,R w wB->S g wB)->Way P main K A X Stop O g w):∀(n:Nat) {g:Goroutine}{w:World},Goes P main R D S n g w->Way P main K A X Stop O g w:=by
 intro n;induction n with
 |zero=>intro g w h;exact k g w h
 | succ n ih =>
   intro g w h;rcases h with h|⟨hrun,h⟩
   ·exact k g w h
   ·refine .step hrun (fun wB h₁=>?_) fun wB g' w' es h₁ he=>?_
    ·have:=h wB (hR _ _ h₁);cases hs:stepG P main g wB with
     |go g' w' es=>rw[hs,goes_go] at this;exact⟨g',w',es,rfl,(hD _ _ _ this.1).1⟩
     |_=>rw[hs] at this;exact this.elim
    ·have:=h wB (hR _ _ h₁);rw[he,goes_go] at this;rw[grow_same O (hD _ _ _ this.1).2];exact ih this.2
end
structure Loose (F:Fam) (π:Perm) (w wa:World):Prop where
 obj:∀(r:Nat) (o:Obj),F.live r->w.heap[r]?=some o->wa.heap[π.f r]?=some (o.pm π)
 ids:∀r,r<F.gs+5->π.f r=r
 low:F.gs+5<=w.heap.size
 lowa:F.gs+5<=wa.heap.size
 os:wa.os=w.os
 g:∀f,π.g f=f
 b:π.b=false
def shift(w wa:World):Nat->Question->Nat:=fun i=>if i<w.drawn then w.tape i else wa.tape (wa.drawn+(i - w.drawn))
section
variable {P:Program}{F:Fam}{π:Perm}{fr:Frame}{cs rest:List Frame}{w wa:World}
theorem qmg(w wa:World):Ext w (shift w wa):=fun i hi=>by simp[shift,hi]
theorem Loose.sim(h:Loose F π w wa):Sim F π (w.tp (shift w wa)) wa:=
 ⟨h.obj,h.ids,h.low,h.lowa,h.os,fun i q=>by
  show shift w wa (w.drawn+i) q=_;unfold shift;rw[if_neg (by omega)];congr 2;omega⟩
theorem Loose.stand(h:Loose F π w wa)(k:Ghost P F fr cs w):Stand P F π fr cs (w.tp (shift w wa)) wa:=⟨h.sim,⟨k.shut.obj⟩,h.g,h.b,k.top,k.sup,k.call⟩
theorem Stand.loose(h:Stand P F π fr cs w wa):Loose F π w wa:=⟨h.sim.obj,h.sim.ids,h.sim.low,h.sim.lowa,h.sim.os,h.g,h.b⟩
def Among(F:Fam)(π:Perm)(n:Nat)(O:Nat->Prop):Prop:=∀r,F.gs+5<=r->r<n->O (π.f r)
theorem Loose.rely{O K:Nat->Prop}{A:World->Prop}(h:Loose F π w wa)(ho:Among F π w.heap.size O){waB:World}(hr:Rely O K A wa waB):Loose F π w waB:=
 ⟨fun r o hl hx=>by rw[hr.own _ (.inl (ho r hl (yk.1 hx).1))];exact h.obj r o hl hx,h.ids,h.low,yr h.lowa hr.size,(congrArg Prod.fst hr.os).trans h.os,h.g,h.b⟩
theorem qev{π':Perm}{w' wa':World}{O:Nat->Prop}(ho:Among F π w.heap.size O)(hr:Ran F π π' w wa w' wa'):Among F π' w'.heap.size (grow O wa wa'):=by
 intro r h8 hlt;by_cases hc:r<w.heap.size
 ·rw[hr.same r hc];exact .inl (ho r h8 hc)
 ·exact .inr ⟨hr.fresh r (by omega) hlt,hr.sim.lt hlt⟩
theorem qkp{π':Perm}{w' wa':World}{O K:Nat->Prop}{X:Event->Prop}{es:Array Event}(hs:Sim F π w wa)(ho:Among F π w.heap.size O)(hr:Ran F π π' w wa w' wa')(he:∀e∈es,Within F π' w'.heap.size e):Guar O K X wa wa' es:=by
 refine⟨fun b hb hn=>hr.frame b hb fun r h8 hlt e=>hn (e▸ho r h8 hlt),hr.growa,hr.tapea,?_,fun e hm=>.inl ?_⟩
 ·exact eo_of (by rw[hr.sim.os,hr.os,hs.os]) hr.outa
 ·have hw:=he e hm;have ha:=qev ho hr;obtain⟨loc,wr,sy⟩:=e;cases loc with
  |cell a=>obtain⟨r,h8,hlt,e⟩:=hw;exact .inl (e▸ha r h8 hlt)
  |obj b=>obtain⟨⟨r,h8,hlt,e⟩,hsy⟩:=hw;exact⟨e▸ha r h8 hlt,hsy⟩
  |mark m=>exact hw
  |output=>trivial
  |goroutines=>exact hw
theorem guar_still{O K:Nat->Prop}{X:Event->Prop}{es:Array Event}(h:∀e∈es,Ev O K e\/X e):Guar O K X wa wa es:=
 ⟨fun _ _ _=>rfl,yb _,rfl,rfl,fun e he=>by rw[grow_same O rfl];exact h e he⟩
def Rel(P:Program)(F:Fam)(L:LeafLaw P F)(π:Perm)(rest:List Frame)(fr:Frame)(cs:List Frame)(w:World)(g:Goroutine):Prop:=
 (Ghost P F fr cs w/\g=G (fr.pm π) (cs.map (Frame.pm π)++rest))\/
 ∃c cs0 ops i r k kd x fra,cs=c::cs0/\Ghost P F c cs0 w/\c.todo=.inRegion ops (i::r)::k/\Slides P L.T F.gs fr fra (.int kd x)/\g=G fra (c.pm π::(cs0.map (Frame.pm π)++rest))
theorem qja{T:World->Prop}{B:Nat}{fra:Frame}{v:Value}(h:Slides P T B fr fra v):fr.mode=.run\/fr.mode=.returning:=by
 cases h with
 |ret hm=>exact .inr hm
 |step hm=>exact .inl hm
theorem qof{L:LeafLaw P F}(h:Cls P F L fr cs w):fr.mode=.run\/fr.mode=.returning:=by
 rcases h.2 with h|⟨_,_,_,_,_,_,_,_,_,_,_,_,h⟩
 ·exact h.top.mode
 ·exact qja h
theorem Ends.cls{C:Frame->List Frame->World->Prop}{Q:Frame->World->Prop}(h:Ends P C Q fr cs w):C fr cs w:=by
 cases h <;> assumption
theorem qjb(hP:ProgOk P F)(L:LeafLaw P F){main:Bool}{K:Nat->Prop}{A:World->Prop}{X:Event->Prop}(hK:∀b,b<F.gs->K b){Q:Frame->World->Prop}{Stop:(Nat->Prop)->Goroutine->World->Prop}{nA:Nat}{πA:Perm}
 {Z:(Nat->Prop)->Perm->Nat->World->Prop} (hZr:∀O π n wa waB,Z O π n wa->Rely O K A wa waB->Z O π n waB) (hZs:∀O π π' w wa w' wa',Z O π w.heap.size wa->Among F π w.heap.size O->Sim F π w wa->Ran F π π' w wa w' wa'->Z (grow O wa wa') π' w'.heap.size wa')
 (hstop:∀π fr w wa O,Loose F π w wa->Ghost P F fr [] w->L.T w->L.T wa->Among F π w.heap.size O->nA<=w.heap.size->(∀r,r<nA->π.f r=πA.f r)->Z O π w.heap.size wa->fr.mode=.returning->Q fr w->Way P main K A X Stop O (G (fr.pm π) rest) wa)
 (h:Ends P (Cls P F L) Q fr cs w):∀{π:Perm}{wa:World}{O:Nat->Prop}{g:Goroutine},Loose F π w wa->L.T wa->Among F π w.heap.size O->nA<=w.heap.size->(∀r,r<nA->π.f r=πA.f r)->Z O π w.heap.size wa->Rel P F L π rest fr cs w g->Way P main K A X Stop O g wa:=by
 induction h with
 | @stop fr w hc hm hQ =>
   intro π wa O g hl hTa ho hn hk hz hr;rcases hr with ⟨hg,rfl⟩|⟨c,cs0,_,_,_,_,_,_,_,e,_⟩
   ·exact hstop π fr w wa O hl hg hc.1 hTa ho hn hk hz hm hQ
   ·cases e
 | @step fr cs w hc hns hgo hnx ih =>
   intro π wa O g hl hTa ho hn hk hz hr;have hrun:g.status=.running:=by rcases hr with ⟨_,rfl⟩|⟨_,_,_,_,_,_,_,_,_,_,_,_,_,rfl⟩ <;> rfl
   have key:∀waB,Rely O K A wa waB->∃g' wa' es',stepG P main g waB=.go g' wa' es'/\Guar O K X waB wa' es'/\Way P main K A X Stop (grow O waB wa') g' wa':=by
    intro waB hrel;have hlB:=hl.rely ho hrel;have hzB:=hZr _ _ _ _ _ hz hrel;have hTaB:L.T waB:=L.loc wa waB (fun b hb=>hrel.own b (.inr (hK b hb))) hTa;have hτ:=qmg w waB;obtain⟨fr',cs',w',es,he⟩:=hgo _ hτ;have IH:=@ih _ hτ _ _ _ _ he;rcases hr with ⟨hg,rfl⟩|⟨c,cs0,ops,i,r,k,kd,x,fra,rfl,hg,ht,hsl,rfl⟩
    ·have hst:=hlB.stand hg;rcases qgw (rest:=rest) hP hst hns he with hd|⟨fr1,cs1,π1,wa1,es1,e1,ha,hs,hran,hev⟩|⟨f,args,π1,wa1,es1,hlf,hF,e1,ha,hs,_,⟨ops,i,r,k,ht⟩,hran,hev⟩
     ·exfalso
      obtain⟨fr1,cs1,chain,e,d1,_⟩:=hd;have e3:fr'=fr1:=by injection e
      have hmode:=qof (L:=L) (hnx _ hτ _ _ _ _ he).cls;rw[e3,d1] at hmode;rcases hmode with h|h <;> cases h
     ·have e2:fr'=fr1/\cs'=cs1:=by injection e1 with a b;exact⟨a,yaH b⟩
      obtain⟨rfl,rfl⟩:=e2;refine⟨_,wa1,es1,ha main,qkp hst.sim ho hran hev,IH hs.loose (hran.ta L hst.sim hTaB) (qev (w:=w.tp (shift w waB)) ho hran) (yr hn hran.grow) (fun r hr=>(hran.same r (yg hr hn)).trans (hk r hr)) (hZs _ _ _ (w.tp (shift w waB)) _ _ _ hzB ho hst.sim hran) (.inl ⟨hs.ghost,rfl⟩)⟩
     ·have e2:fr'=Frame.enter P f args .normal/\cs'=fr::cs:=by
       injection e1 with a b;exact⟨a,yaH (bs:=[poison]) b⟩
      obtain⟨rfl,rfl⟩:=e2;rcases L.law f args hlf hF with ⟨kd,x,hsl⟩|hst'
      ·refine⟨_,wa1,es1,ha main,qkp hst.sim ho hran hev,IH hs.loose (hran.ta L hst.sim hTaB) (qev (w:=w.tp (shift w waB)) ho hran) (yr hn hran.grow) (fun r hr=>(hran.same r (yg hr hn)).trans (hk r hr)) (hZs _ _ _ (w.tp (shift w waB)) _ _ _ hzB ho hst.sim hran) (.inr ⟨fr,cs,ops,i,r,k,kd,x,_,rfl,hs.ghost,ht,hsl π1,rfl⟩)⟩
      ·exfalso
       have hcl:Cls P F L (Frame.enter P f args .normal) (fr::cs) w':=(hnx _ hτ _ _ _ _ he).cls;rcases hcl.2 with hg'|⟨_,_,_,_,_,_,kd,x,_,_,_,_,hsl⟩
       ·have:=hg'.top.leaf;rw[show (Frame.enter P f args .normal).fn=f from rfl,hlf] at this;cases this
       ·have hclash:∀{fr fra:Frame}{v:Value},Slides P L.T F.gs fr fra v->Sticks P L.T fr->False:=by
         intro fr fra v h;induction h with
         | @ret fr fra v fn fna hm hd hkk hf hr =>
           intro hs;have e:=qk P true fr poison [poison] w' w' hm hd hkk fn v #[] hf (hr w' hcl.1);cases hs with
           |now hs=>obtain⟨_,_,_,e'⟩:=hs w' true [poison,poison] hcl.1;rw[e'] at e;cases e
           | step hs _ =>
             have e':=hs w' true [poison,poison] hcl.1;rw[e'] at e;injection e with e1;injection e1 with _ e2;cases e2
         | @step fr fra fr' fra' v es esa hm hs _ he _ ih =>
           intro hs';have e:=hs w' true [] hcl.1;cases hs' with
           |now hs'=>obtain⟨_,_,_,e'⟩:=hs' w' true [] hcl.1;rw[e'] at e;cases e
           | step hs' h' =>
             have e':=hs' w' true [] hcl.1;rw[e'] at e;injection e with e1;injection e1 with e2;subst e2;exact ih h'
        exact hclash hsl hst'
    ·
     have hTw:L.T w:=hc.1;have hTw':L.T (w.tp (shift w waB)):=L.loc w _ (fun _ _=>rfl) hTw;cases hsl with
     | @ret _ _ _ fn fna hmr hd hkk hf hrr hmra hda hkka hfa hrra =>
       have e:=qk P true fr c (cs0++[poison]) (w.tp (shift w waB)) _ hmr hd hkk fn _ #[] hf (hrr _ hTw');rw[yah,e] at he;injection he with a b _;have e2:c.finish (.int kd x)=fr'/\cs0=cs':=by injection a with a1 a2;exact⟨a1,yaH a2⟩
       obtain⟨rfl,rfl⟩:=e2;subst b;have hfin:=qa6 π ht (.int kd x);simp only[qbd] at hfin;refine⟨_,waB,_,qk P main fra (c.pm π) (cs0.map (Frame.pm π)++rest) waB waB hmra hda hkka fna _ #[] hfa (hrra _ hTaB),guar_still (fun e he=>by have:=seen_sub P fra.fn #[] e he;simp at this),?_⟩;rw[grow_same O rfl];have hgf:Ghost P F (c.finish (.int kd x)) cs0 (w.tp (shift w waB)):=((hlB.stand hg).finish ht (v:=.int kd x) (fun σ _=>by simp)).ghost;exact IH (hlB.stand hg).loose hTaB ho hn hk hzB (.inl ⟨hgf,by rw[hfin]⟩)
     | @step _ _ fr1 fra1 _ es0 ess hm hs hsa hes hsl' =>
       have e:=hs (w.tp (shift w waB)) true ((c::cs0)++[poison]) hTw';rw[e] at he;injection he with a b _;have e2:fr1=fr'/\c::cs0=cs':=by injection a with a1 a2;exact⟨a1,yaH (bs:=[poison]) a2⟩
       obtain⟨rfl,rfl⟩:=e2;subst b;refine⟨_,waB,ess,hsa waB main _ hTaB,guar_still (fun e he=>?_),?_⟩
       ·obtain⟨a,rfl,hb⟩:=hes e he;exact .inl (.inr ⟨hK _ hb,rfl,rfl⟩)
       ·rw[grow_same O rfl];exact IH (hlB.stand hg).loose hTaB ho hn hk hzB (.inr ⟨c,cs0,ops,i,r,k,kd,x,fra1,rfl,hg.tp _,ht,hsl',rfl⟩)
   refine .step hrun (fun waB h₁=>?_) fun waB g' wa' es' h₁ he=>?_
   ·obtain⟨g',wa',es',k1,k2,_⟩:=key waB h₁;exact⟨g',wa',es',k1,k2⟩
   ·obtain⟨g2,wa2,es2,k1,_,k3⟩:=key waB h₁;rw[he] at k1;injection k1 with a b _;subst a b;exact k3
end
section
variable {P:Program}{F:Fam}{π:Perm}{fr:Frame}{cs rest:List Frame}{w wa:World}
theorem qh4(hP:ProgOk P F)(h:Stand P F π fr [] w wa){fd:Func}{v:Value}(hres:(results fd fr.tmps).run P w=.ok v w) :
 ∃es,(results fd (fr.pm π).tmps).runT P wa #[]=(.ok (v.pm π) wa,es)/\(∀e∈es,Within F π w.heap.size e)/\Sup F w.heap.size v:=by
 have hlone:qrf P F Value.pm π w wa ((results fd fr.tmps).over P):=qgs pm_comp _ h.sim h.shut fun σ hσ=>by
  have:=Eqv.results (qcf hP hσ) fd fr.tmps;rw[h.sup σ hσ] at this;exact this.symm
 have hact:∀es a wa' es',(((results fd fr.tmps).over P).act π (Value.pm π)).runT P wa es=(.ok a wa',es')->(results fd (fr.pm π).tmps).runT P wa es=(.ok a wa',es'):=fun es a wa' es' he=>
  qdi ((congrArg (fun s=>Sem.runT P s wa es) (Eqv.results (h.still hP) fd fr.tmps)).trans he)
 have hT:((results fd fr.tmps).runT P w #[]).1=.ok v w:=by rw[Sem.runT_fst];exact hres
 obtain⟨π',wa',d,h1,h2,h3,h4⟩:=(hlone #[] #[]).1 v w ((results fd fr.tmps).runT P w #[]).2 (qdh (Prod.ext hT rfl));replace h1:=hact _ _ _ _ h1;have h5:(results fd (fr.pm π).tmps).run P wa=.ok (v.pm π') wa':=by rw[<-Sem.runT_fst P _ _ #[],h1]
 have h6:=qc2 fd _ _ _ _ h5;subst h6;have hv:Sup F w.heap.size v:=h4;rw[qgt h.sim.below h2.sim.below h2.same h2.rest hv] at h1;refine⟨_,h1,fun e he=>?_,hv⟩;have:=h3 e (by simpa using he);obtain⟨loc,wr,sy⟩:=e;cases loc with
 |cell a=>obtain⟨r,h8,hlt,e⟩:=this;exact⟨r,h8,hlt,by rw[<-h2.same r hlt];exact e⟩
 |obj b=>obtain⟨⟨r,h8,hlt,e⟩,hsy⟩:=this;exact⟨⟨r,h8,hlt,by rw[<-h2.same r hlt];exact e⟩,hsy⟩
 |mark m=>exact this
 |output=>trivial
 |goroutines=>exact this
theorem qmh{O K:Nat->Prop}{n:Nat}(ho:Among F π n O){e:Event}(h:Within F π n e):Ev O K e:=by
 obtain⟨loc,wr,sy⟩:=e;cases loc with
 |cell a=>obtain⟨r,h8,hlt,e⟩:=h;exact .inl (e▸ho r h8 hlt)
 |obj b=>obtain⟨⟨r,h8,hlt,e⟩,hsy⟩:=h;exact⟨e▸ho r h8 hlt,hsy⟩
 |mark m=>exact h
 |output=>trivial
 |goroutines=>exact h
theorem qjc(hP:ProgOk P F)(hlow:F.gs+5<=w.heap.size)(hs:Shut F w){f:FuncId}(hF:F f=true)(hlf:F.leaf f=false){args:Array Value}(ha:∀v∈args,Sup F w.heap.size v):Ghost P F (Frame.enter P f args .normal) [] w:=
 ⟨hlow,hs,(qc1 hP hF hlf ha).1,(qc1 hP hF hlf ha).2,fun c hc=>by cases hc⟩
theorem way_callZ(hP:ProgOk P F)(L:LeafLaw P F){main:Bool}{K:Nat->Prop}{A:World->Prop}{X:Event->Prop}(hK:∀b,b<F.gs->K b){Stop:(Nat->Prop)->Goroutine->World->Prop}{O:Nat->Prop}
 {Z:(Nat->Prop)->Perm->Nat->World->Prop} (hZr:∀O π n wa waB,Z O π n wa->Rely O K A wa waB->Z O π n waB) (hZs:∀O π π' w wa w' wa',Z O π w.heap.size wa->Among F π w.heap.size O->Sim F π w wa->Ran F π π' w wa w' wa'->Z (grow O wa wa') π' w'.heap.size wa') (hz:Z O π w.heap.size wa)
 (h:Loose F π w wa) (hs:Shut F w) (hT:L.T w) (hTa:L.T wa) (ho:Among F π w.heap.size O) {f:FuncId} (hF:F f=true) (hlf:F.leaf f=false) {args:Array Value} (ha:∀v∈args,Sup F w.heap.size v)
 {R:Ending->World->Prop} (hc:∀τ,Ext w τ->Calls P f args (w.tp τ) R) (hR:∀e w',R e w'->∃v,e=.returned v) {c:Frame}
 (hk:∀v w' π' wa' O',R (.returned v) w'->Loose F π' w' wa'->Shut F w'->L.T w'->L.T wa'->Among F π' w'.heap.size O'->w.heap.size<=w'.heap.size->(∀r,r<w.heap.size->π'.f r=π.f r)->Sup F w'.heap.size v->Z O' π' w'.heap.size wa'->Way P main K A X Stop O' (G (c.finish (v.pm π')) rest) wa') :
 Way P main K A X Stop O (G (Frame.enter P f (args.map (Value.pm π)) .normal) (c::rest)) wa:=by
 let Q:Frame->World->Prop:=fun fr w'=>fr.defers=[]/\fr.kind=.normal/\∃fd v,P.funcs[fr.fn]?=some fd/\(results fd fr.tmps).run P w'=.ok v w'/\R (.returned v) w'
 have hgh:=qjc hP h.low hs hF hlf ha;have hends:Ends P (Cls P F L) Q (Frame.enter P f args .normal) [] w:=bar hP L ⟨hT,.inl hgh⟩ fun τ hτ=>by
  obtain⟨e,w',fr',hRe,hcomes,hfn,hleave⟩:=hc τ hτ [poison];obtain⟨v,rfl⟩:=hR e w' hRe;obtain⟨n,hrun⟩:=hcomes;obtain⟨hm,hd,hkk,fd,hfd,hres⟩:=hleave;exact⟨n,fr',w',hrun,hm,hd,hkk,fd,v,hfd,hres,hRe⟩
 have hrel:Rel P F L π (c::rest) (Frame.enter P f args .normal) [] w (G (Frame.enter P f (args.map (Value.pm π)) .normal) (c::rest)):=.inl ⟨hgh,by rw[qgv];rfl⟩;refine qjb (rest:=c::rest) hP L hK (nA:=w.heap.size) (πA:=π) hZr hZs ?_ hends h hTa ho (yb _) (fun _ _=>rfl) hz hrel;intro π' fr' w' wa' O' hl' hg' hT' hTa' ho' hn hsame hz' hm ⟨hd,hkk,fd,v,hfd,hres,hRv⟩;have hstep:∀waB,Rely O' K A wa' waB->∃es,stepG P main (G (fr'.pm π') (c::rest)) waB=.go (G (c.finish (v.pm π')) rest) waB es/\(∀e∈es,Ev O' K e)/\Sup F w'.heap.size v:=by
  intro waB h₁;have hlB:=hl'.rely ho' h₁;have hst:=hlB.stand hg';have hres':(results fd fr'.tmps).run P (w'.tp (shift w' waB))=.ok v (w'.tp (shift w' waB)):=by
   have hrt:(results fd fr'.tmps).runT P w' #[]=(.ok v w',((results fd fr'.tmps).runT P w' #[]).2):=Prod.ext (by rw[Sem.runT_fst];exact hres) rfl;obtain⟨_,_,t3⟩:=qf8 hP hg'.stand hrt;have:=t3 (shift w' waB) (fun i h1 h2=>absurd h2 (yan.2 h1));rw[<-Sem.runT_fst P _ _ #[],this]
  obtain⟨es,e1,e2,e3⟩:=qh4 hP hst hres';exact⟨_,qk P main (fr'.pm π') c rest waB waB hm hd hkk fd (v.pm π') es hfd e1,fun e he=>qmh (F:=F) (π:=π') (n:=w'.heap.size) ho' (e2 e (seen_sub P _ es e he)),e3⟩
 refine .step rfl (fun waB h₁=>?_) fun waB g' wa2 es h₁ he=>?_
 ·obtain⟨es,e1,e2,_⟩:=hstep waB h₁;exact⟨_,waB,es,e1,guar_still fun e he=>.inl (e2 e he)⟩
 ·obtain⟨es',e1,_,e3⟩:=hstep waB h₁;rw[e1] at he;injection he with a b _;subst a b;rw[grow_same O' rfl];exact hk v w' π' waB O' hRv (hl'.rely ho' h₁) hg'.shut hT' (L.loc wa' waB (fun b hb=>h₁.own b (.inr (hK b hb))) hTa') ho' hn hsame e3 (hZr _ _ _ _ _ hz' h₁)
theorem way_call(hP:ProgOk P F)(L:LeafLaw P F){main:Bool}{K:Nat->Prop}{A:World->Prop}{X:Event->Prop}(hK:∀b,b<F.gs->K b){Stop:(Nat->Prop)->Goroutine->World->Prop}{O:Nat->Prop}
 (h:Loose F π w wa) (hs:Shut F w) (hT:L.T w) (hTa:L.T wa) (ho:Among F π w.heap.size O) {f:FuncId} (hF:F f=true) (hlf:F.leaf f=false) {args:Array Value} (ha:∀v∈args,Sup F w.heap.size v)
 {R:Ending->World->Prop} (hc:∀τ,Ext w τ->Calls P f args (w.tp τ) R) (hR:∀e w',R e w'->∃v,e=.returned v) {c:Frame}
 (hk:∀v w' π' wa' O',R (.returned v) w'->Loose F π' w' wa'->Shut F w'->L.T w'->L.T wa'->Among F π' w'.heap.size O'->w.heap.size<=w'.heap.size->(∀r,r<w.heap.size->π'.f r=π.f r)->Sup F w'.heap.size v->Way P main K A X Stop O' (G (c.finish (v.pm π')) rest) wa') :
 Way P main K A X Stop O (G (Frame.enter P f (args.map (Value.pm π)) .normal) (c::rest)) wa:=
 way_callZ hP L hK (Z:=fun _ _ _ _=>True) (fun _ _ _ _ _ _ _=>trivial) (fun _ _ _ _ _ _ _ _ _ _ _=>trivial) trivial h hs hT hTa ho hF hlf ha hc hR fun v w' π' wa' O' h1 h2 h3 h4 h5 h6 h7 h8 h9 _=>hk v w' π' wa' O' h1 h2 h3 h4 h5 h6 h7 h8 h9
end
end
end Go.Pm
