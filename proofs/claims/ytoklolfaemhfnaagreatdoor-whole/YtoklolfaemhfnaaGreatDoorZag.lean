import Derived.Test.YtoklolfaemhfnaaGreatDoorZaf
set_option maxRecDepth 100000
set_option maxHeartbeats 8000000
namespace Go.Cr
section
open Go Go.Conc
open Go.ConcN (PermW fork_knows RelBy WgLive sumTo upd upd_same upd_ne sumTo_upd sumTo_upd_out sumTo_congr get_map_set get_map_set_same)
open Go.ConcR (KK wgBlock WgAt stA smA rd wr mk Bk g_of_ofEvents ofEvent_loc_mark ofEvent_cell ofEvent_mk loc_of_ofEvent bk_of_mute WgAt.setSt WgAt.setSm)
open Go.Pm (Rely Guar Ev grow Way)
section
variable {ty:TypeId}{Wg j i:Nat}{D:Nat->WS}{w:World}{tag:Tag}{blk:Bool}
theorem MD.congr{D':Nat->WS}(hst:∀a,a<j->(D' a).stage=(D a).stage)(h:MD ty Wg j D w tag blk):MD ty Wg j D' w tag blk:=by
 have hv:Vc j D'=Vc j D:=sumTo_congr fun a ha=>by simp only[cnt,hst a ha]
 have ho:OpenSt j D->OpenSt j D':=fun h a ha=>by rw[hst a ha];exact h a ha
 have hq:qrs j D->qrs j D':=fun h a ha=>by rw[hst a ha];exact h a ha
 cases h with
 |free h=>exact .free (hq h)
 |opn h1 h2 h3 h4 h5=>exact .opn h1 (ho h2) (by rw[hv];exact h3) (by rw[hv];exact h4) (by rw[hv];exact h5)
 |reg h1 h2 h3=>exact .reg (ho h1) (by rw[hv];exact h2) (by rw[hv];exact h3)
 |last L h1 h2 h3 h4=>exact .last L h1 (by rw[hst L h1];exact h2) (fun a ha e=>by rw[hst a ha];exact h3 a ha e) (by rw[hst L h1];exact h4)
 |sema h1 h2=>exact .sema (hq h1) h2
 |fin h1 h2 h3=>exact .fin h1 (hq h2) h3
theorem qch(s':WS)(h:s'.stage=(D i).stage):∀a,a<j->(upd D i s' a).stage=(D a).stage:=fun a _=>by
 by_cases e:a=i
 ·subst e;rw[upd_same];exact h
 ·rw[upd_ne D _ e]
theorem qpx(x:WS)(hi:i<j):Vc j (upd D i x)+cnt (D i)=Vc j D+cnt x:=sumTo_upd D x cnt hi
theorem qci(x:WS)(hx:x.stage=7\/x.stage=6\/x.stage=5\/x.stage=1)(h:OpenSt j D):OpenSt j (upd D i x):=fun a ha=>by
 by_cases e:a=i
 ·subst e;rw[upd_same];exact hx
 ·rw[upd_ne D _ e];exact h a ha
theorem MD.counted(h:MD ty Wg j D w tag blk)(hi:i<j)(h5:5<=(D i).stage)(x:WS)(hx:x.stage=6\/x.stage=5):MD ty Wg j (upd D i x) w tag blk:=by
 have hv:Vc j (upd D i x)=Vc j D:=by
  have:=qpx x hi (D:=D);have c1:cnt (D i)=1:=by simp[cnt,h5]
  have c2:cnt x=1:=by rcases hx with e|e <;> simp[cnt,e]
  omega
 have ho:OpenSt j D->OpenSt j (upd D i x):=qci x (by omega);have no:qrs j D->False:=fun h=>by have:=h i hi;omega
 cases h with
 |free h=>exact(no h).elim
 |opn h1 h2 h3 h4 h5=>exact .opn h1 (ho h2) (by rw[hv];exact h3) (by rw[hv];exact h4) (by rw[hv];exact h5)
 |reg h1 h2 h3=>exact .reg (ho h1) (by rw[hv];exact h2) (by rw[hv];exact h3)
 | last L h1 h2 h3 h4 =>
   by_cases e:i=L
   ·subst e;omega
   ·have:=h3 i hi e;omega
 |sema h1 h2=>exact(no h1).elim
 |fin h1 h2 h3=>exact(no h2).elim
theorem MD.isLast(h:MD ty Wg j D w tag blk)(hi:i<j)(hs:(D i).stage=4\/(D i).stage=3\/(D i).stage=2) :
 tag=.w3/\(∀a,a<j->a≠i->(D a).stage=1)/\WgAt ty Wg w (if (D i).stage=2 then 0 else 1) 0:=by
 have no:qrs j D->False:=fun h=>by have:=h i hi;omega
 cases h with
 |free h=>exact(no h).elim
 |opn _ h2 _ _ _=>have:=h2 i hi;omega
 |reg h1 _ _=>have:=h1 i hi;omega
 | last L h1 h2 h3 h4 =>
   by_cases e:i=L
   ·subst e;exact⟨rfl,h3,h4⟩
   ·have:=h3 i hi e;omega
 |sema h1 _=>exact(no h1).elim
 |fin _ h2 _=>exact(no h2).elim
theorem Vc_le:∀(j base:Nat),base<=j->(∀i,i<base->(D i).stage=1)->Vc j D<=j - base
 |0,base,hb,_=>by simp[Vc,sumTo]
 | j + 1, base, hb, h => by
   by_cases e:base=j+1
   ·subst e;have:Vc (j+1) D=0:=by
     have key:∀k,k<=j+1->sumTo k (fun i=>cnt (D i))=0:=by
      intro k;induction k with
      |zero=>intro _;rfl
      |succ k ih=>intro hk;simp only[sumTo];rw[ih (by omega)];simp[cnt,h k (by omega)]
     exact key _ (yb _)
    omega
   ·have:=Vc_le j base (by omega) h;have hc:cnt (D j)<=1:=by simp only[cnt];split <;> omega
    simp only[Vc,sumTo] at this ⊢;omega
theorem qcp:∀{j:Nat},1<=Vc j D->∃i,i<j/\5<=(D i).stage
 |0,h=>by simp[Vc,sumTo] at h
 | j + 1, h => by
   by_cases hc:5<=(D j).stage
   ·exact⟨j,by omega,hc⟩
   ·obtain⟨i,hi,h5⟩:=qcp (j:=j) (by simpa[Vc,sumTo,cnt,hc] using h);exact⟨i,by omega,h5⟩
theorem qga(h:OpenSt j D)(h0:Vc j D=0):qrs j D:=fun i hi=>by
 have:=ConcN.le_sumTo (f:=fun a=>cnt (D a)) hi;have hc:cnt (D i)=0:=by simp only[Vc] at h0;omega
 simp only[cnt] at hc;have:=h i hi;split at hc <;> omega
end
section
variable {P:Program}{ty:TypeId}{Wg:Nat}{Qs:List Fact}{tag:Tag}{blk:Bool}{O K:Nat->Prop}{g:Goroutine}{wst:World}{W:Nat->Prop}{base:Nat}{D:Nat->WS}{gs:Array Goroutine}{w w':World}{t:Trace}
theorem RelX.book{a:Addr}{k r d:Nat}(h:RelX a W t k r)(hW:W Wg)(hdk:Deaf t k=d)(fn:FuncId)(pos:String){es:Array Event}(hes:∀e∈es,Bk Wg e)
 (hd:∀j e,es[j]?=some e->(MemAct.ofEvent e).touch?=none\/0<deafBehind d (es.extract 0 j)):RelX a W (t++MemOp.ofEvents k fn pos es) k r:=by
 refine⟨h.by_.book hdk fn pos hes hd,fun i x hi hgi hx=>?_⟩;rcases qm hx with hx'|⟨op,hop,hox,_⟩
 ·obtain⟨z,hz,_⟩:=touch_of hx';exact h.after i x hi (by rw[<-g?_old (u:=MemOp.ofEvents k fn pos es) (lt_size_of_getElem? hz)];exact hgi) hx'
 ·obtain⟨e,he,rfl⟩:=Conc.mem_ofEvents hop;rcases hes e he with h1|h1|⟨a,wr,rfl,ha⟩
  ·simp only[ofEvent_loc_mark h1] at hox;cases hox
  ·simp only[ofEvent_loc_mark h1] at hox;cases hox
  ·simp only[ofEvent_cell,MemAct.touch?,yA] at hox;subst hox;exact⟨rfl,by show W a.block;rw[ha];exact hW⟩
theorem Inv.book(h:Inv P ty Wg Qs tag blk O K g wst W base D gs w t){i:Nat}(hb:base<=i)(hi:i<base+Qs.length){x g':Goroutine}{es:Array Event}
 (hA:Aside Wg w w') (hl:WgLive ty Wg w->WgLive ty Wg w') (hes:∀e∈es,Bk Wg e) (hd:∀j e,es[j]?=some e->(MemAct.ofEvent e).touch?=none\/0<deafBehind (D i).deaf (es.extract 0 j))
 {T:Tree}{s' d':Nat} (hs6:(D i).stage<=6) (hdeaf:deafBehind (D i).deaf es=d') (hwk:Wk P ty Wg (D i).q (D i).ro T s' d' (D i).own g' w')
 (hmode:∀blk',(blk'=blk\/blk'=false)->(mayWake P x=true->g'.status=.running->blk'=false)->MD ty Wg (base+Qs.length) (upd D i { D i with stage:=s',deaf:=d',st:=w',tree:=T }) w' tag blk') :
 ∃blk',Inv P ty Wg Qs tag blk' O K g wst W base (upd D i { D i with stage:=s',deaf:=d',st:=w',tree:=T }) ((gs.map (woken P x g' w')).setIfInBounds (i+1) g') w' (t++MemOp.ofEvents (i+1) x.frame.fn x.frame.place es):=by
 have hfree:tag≠.free:=fun e=>by have:=h.nofree e;subst this;simp at hi;omega
 have hWg:=h.wg hfree;have hWlt:Wg<w.heap.size:=h.sets.lt0 Wg (.inr (.inr hWg));refine h.worker hi (s':={ D i with stage:=s',deaf:=d',st:=w',tree:=T }) (fun e=>by omega) rfl rfl rfl (fun b _ _ hbW=>hA.block b fun e=>hbW (e▸hWg)) (by rw[hA.size];exact yb _) (Go.Pm.eo_of hA.os hA.output) hl (fun b hb'=>.inl hb') hwk ?_ hdeaf (fun _ _=>?_) (fun _ _ wB hr=>?_) hmode
 ·refine h.tl.appW h.sets hb hi (by rw[hA.size];exact yb _) (fun b hb'=>?_) (fun k e=>by rw[upd_ne D _ e]) ?_
  ·simp only[upd_same] at hb';exact .inl hb'
  ·exact qpw hWg (by rw[hA.size];exact hWlt) hes
 ·obtain⟨r,hr⟩:=h.rel i hb hi hs6;exact⟨r,hr.book hWg (h.deafW i hi) _ _ hes hd⟩
 ·refine h.q i hb hi hs6 wB ((h.rely i hb hi).trans (Rely.trans ⟨fun b hb'=>hA.block b fun e=>?_,by rw[hA.size];exact yb _,(Go.Pm.eo_of hA.os hA.output),hl⟩ hr));subst e;exact hb'.elim (h.sets.wi i hi b hWg).1 (h.sets.wi i hi b hWg).2
theorem qmj{OB KB:Nat->Prop}{es:Array Event}(h:Guar OB KB XNone w w' es):∀e∈es,Ev (grow OB w w') KB e:=fun e he=>(h.evs e he).resolve_right id
theorem qmk{OB KB:Nat->Prop}{e:Event}(h:Ev OB KB e):e.loc≠.mark .disable/\e.loc≠.mark .enable:=by
 obtain⟨loc,wr,sy⟩:=e;cases loc with
 |mark m=>have hm:m=.noRoom:=h;subst hm;simp
 |_=>simp
theorem qjd(h:Inv P ty Wg Qs tag blk O K g wst W base D gs w t){i:Nat}(hi:i<base+Qs.length){x:Goroutine}(hx:gs[i+1]?=some x)(hrun:x.status=.running)(sl:Option (Nat × Nat)) :
 ∃blk' s' gs' w' ops,runT P (crowd gs w sl) (i+1)=(.next (crowd gs' w' sl),ops)/\Tree.Lt s'.tree (D i).tree/\Inv P ty Wg Qs tag blk' O K g wst W base (upd D i s') gs' w' (t++ops):=by
 obtain⟨x',hx',hwk⟩:=h.wk i hi;rw[hx] at hx';cases hx';have done:∀{g':Goroutine}{w':World}{es:Array Event}{s':WS},stepG P false x w=.go g' w' es->Tree.Lt s'.tree (D i).tree->(∃blk',Inv P ty Wg Qs tag blk' O K g wst W base (upd D i s') ((gs.map (woken P x g' w')).setIfInBounds (i+1) g') w' (t++MemOp.ofEvents (i+1) x.frame.fn x.frame.place es))->
  ∃blk' s' gs' w' ops,runT P (crowd gs w sl) (i+1)=(.next (crowd gs' w' sl),ops)/\Tree.Lt s'.tree (D i).tree/\Inv P ty Wg Qs tag blk' O K g wst W base (upd D i s') gs' w' (t++ops):=by
  intro g' w' es s' hgo hlt ⟨blk',hI⟩;exact⟨blk',s',_,w',_,runT_crowd_go (P:=P) (sl:=sl) (i:=i+1) hx (by simpa using hgo),hlt,hI⟩
 by_cases hb:base<=i
 ·have hfree:tag≠.free:=fun e=>by have:=h.nofree e;subst this;simp at hi;omega
  have hWg:=h.wg hfree;have hr:=h.rely i hb hi;have hlive:=h.mode.live hfree;obtain⟨T,hT⟩:∃T,(D i).tree=T:=⟨_,rfl⟩;rw[hT] at hwk;obtain⟨s,hs⟩:∃s,(D i).stage=s:=⟨_,rfl⟩;rw[hs] at hwk;obtain⟨dd,hdd⟩:∃dd,(D i).deaf=dd:=⟨_,rfl⟩;rw[hdd] at hwk;cases hwk with
  | @idle f s d OB gB wB hcase hrun' hgo hnx =>
    obtain⟨g',w',es,e1,e2,e3⟩:=hgo w hr;have hn:=hnx w g' w' es hr e1;by_cases h7:s=7
    ·subst h7;refine done (s':={ D i with own:=grow (D i).own w w',st:=w',tree:=f w }) e1 (by rw[hT];exact .mk f w) (h.worker hi (fun e=>by omega) rfl rfl rfl (fun b b1 b2 _=>e2.frame b b1 b2) e2.size e2.os (fun ⟨st,sm,hl⟩=>⟨st,sm,?_⟩) (fun b hb'=>hb') ?_ ?_ ?_ (fun _ e=>?_) (fun _ e=>?_) fun blk' hb1 _=>?_)
     ·exact(e2.frame Wg (h.sets.lt0 Wg (.inr (.inr hWg))) (h.sets.wi i hi Wg hWg).1).trans hl
     ·show Wk P ty Wg (D i).q (D i).ro (f w) (D i).stage (D i).deaf (grow (D i).own w w') g' w';rw[hs,hdd];exact hn
     ·refine h.tl.appW h.sets hb hi e2.size (fun b hb'=>?_) (fun k e=>by rw[upd_ne D _ e]) ?_
      ·simp only[upd_same] at hb';exact hb'.imp id fun x=>x.1
      ·simp only[upd_same];exact qgy (X:=XNone) (fun b hb'=>hb'.elim (fun x=>yg (h.sets.lt i hi b (.inl x)) e2.size) fun x=>x.2) (fun b hb'=>yg (h.sets.lt i hi b (.inr hb')) e2.size) e2.evs (fun e he=>he.elim)
     ·exact deafBehind_still (fun e he=>qmk (qmj e2 e he)) _
     ·exfalso;have e':(D i).stage<=6:=e;omega
     ·exfalso;have e':(D i).stage<=6:=e;omega
     ·refine((h.mode.wake hb1).block fun _=>?_).congr (qch _ rfl);exact e2.frame Wg (h.sets.lt0 Wg (.inr (.inr hWg))) (h.sets.wi i hi Wg hWg).1
    ·obtain⟨rfl,rfl⟩:=e3 h7;rw[Go.Pm.grow_same _ rfl] at hn;refine done e1 (s':={ D i with stage:=s,deaf:=dd,st:=w',tree:=f w' }) (by rw[hT];exact .mk f w') (h.book hb hi (.refl Wg w') id (by simp) (by simp) (by omega) (by rw[hdd];rfl) hn fun blk' hb1 _=>(h.mode.wake hb1).congr (qch _ hs.symm))
  | @rel f OB gB wB hrun' hQ hgo hnx =>
    obtain⟨g',e1⟩:=hgo w hr;have hn:=hnx w g' w _ hr e1;refine done (s':={ D i with stage:=6,deaf:=0,st:=w,tree:=f w }) e1 (by rw[hT];exact .mk f w) (h.worker hi (fun e=>by omega) rfl rfl rfl (fun _ _ _ _=>rfl) (yb _) rfl id (fun b hb'=>.inl hb') hn ?_ ?_ (fun _ _=>?_) (fun _ _ wB hr'=>hQ wB (hr.trans hr')) fun blk' hb1 _=>(h.mode.wake hb1).counted hi (by omega) _ (.inl rfl))
    ·refine h.tl.appW h.sets hb hi (yb _) (fun b hb'=>?_) (fun k e=>by rw[upd_ne D _ e]) fun op hop=>?_
     ·simp only[upd_same] at hb';exact .inl hb'
     ·obtain⟨e,he,rfl⟩:=Conc.mem_ofEvents hop;simp only[yag,yu] at he;subst he;refine⟨rfl,fun x hx=>?_,?_,by simp[mk,MemAct.ofEvent]⟩
      ·simp[mk,MemAct.ofEvent,MemAct.touch?] at hx
      ·exact h.sets.lt0 Wg (.inr (.inr hWg))
    ·rw[hdd];rfl
    ·have hrb:=RelBy.new (a:=stA Wg) (k:=i+1) (by rw[h.deafW i hi,hdd]) x.frame.fn x.frame.place;refine⟨t.size,hrb,fun k y hk _ hy=>?_⟩;obtain⟨z,hz,_⟩:=touch_of hy;have:=lt_size_of_getElem? hz;simp[ofEvents_eq] at this;omega
  | @dis f OB gB wB hrun' hgo hnx =>
    obtain⟨g',e1⟩:=hgo w hr;have hn:=hnx w g' w _ hr e1;refine done e1 (s':={ D i with stage:=5,deaf:=1,st:=w,tree:=f w }) (by rw[hT];exact .mk f w) (h.book hb hi (.refl Wg w) id (by intro e he;simp at he;subst he;exact .inl rfl) (by intro jx e he;match jx,he with|0,he=>simp at he;subst he;exact .inl rfl|jx+1,he=>simp at he) (by omega) (by rw[hdd];rfl) hn fun blk' hb1 _=>(h.mode.wake hb1).counted hi (by omega) _ (.inr rfl))
  | @add f OB gB wB hrun' hgo hn4 hn1 =>
    have hbk:∀e∈#[rd (stA Wg),wr (stA Wg)],Bk Wg e:=by intro e he;simp at he;rcases he with rfl|rfl <;> exact .inr (.inr ⟨_,_,rfl,rfl⟩)
    have hdf:∀jx e,#[rd (stA Wg),wr (stA Wg)][jx]?=some e->(MemAct.ofEvent e).touch?=none\/0<deafBehind (D i).deaf (#[rd (stA Wg),wr (stA Wg)].extract 0 jx):=by
     rw[hdd];intro jx e he;match jx,he with
     |0,_=>exact .inr (by simp[deafBehind])
     |1,_=>exact .inr (by simp[deafBehind,rd])
     |jx+2,he=>simp at he
    have hc1:cnt (D i)=1:=by simp[cnt,hs]
    have hVle:Vc (base+Qs.length) D<=Qs.length:=by have:=Vc_le (D:=D) (base+Qs.length) base (by omega) h.old;omega
    have hV1:1<=Vc (base+Qs.length) D:=by have:=ConcN.le_sumTo (f:=fun a=>cnt (D a)) hi;simp only[Vc];omega
    have hfew:=h.few;have key:∀(v wt:Nat),wt<=1->WgAt ty Wg w ((v+1) * KK+wt) 0->v<2147483647->(¬(v=0/\wt=1)->∀blk',(blk'=blk\/blk'=false)->∀T st',MD ty Wg (base+Qs.length) (upd D i { D i with stage:=1,deaf:=1,st:=st',tree:=T }) (w.setCell (stA Wg) (.int .u64 (v * KK+wt))) tag blk')->
     ((v=0/\wt=1)->∀blk',(blk'=blk\/blk'=false)->∀T st',MD ty Wg (base+Qs.length) (upd D i { D i with stage:=4,deaf:=1,st:=st',tree:=T }) (w.setCell (stA Wg) (.int .u64 (v * KK+wt))) tag blk')->
     ∃blk' s' gs' w' ops,runT P (crowd gs w sl) (i+1)=(.next (crowd gs' w' sl),ops)/\Tree.Lt s'.tree (D i).tree/\Inv P ty Wg Qs tag blk' O K g wst W base (upd D i s') gs' w' (t++ops):=by
     intro v wt hwt hst hv hm1 hm4;obtain⟨g',e1⟩:=hgo w hr v wt hwt hv hst;have hA:Aside Wg w (w.setCell (stA Wg) (.int .u64 (v * KK+wt))):=aside_setCell w (stA Wg) _;have hL:WgLive ty Wg w->WgLive ty Wg (w.setCell (stA Wg) (.int .u64 (v * KK+wt))):=fun _=>⟨_,_,hst.setSt _⟩;by_cases hlast:v=0/\wt=1
     ·have hn:=hn4 w g' _ _ hr (by obtain⟨rfl,rfl⟩:=hlast;exact hst) e1;exact done e1 (s':={ D i with stage:=4,deaf:=1,st:=w.setCell (stA Wg) (.int .u64 (v * KK+wt)),tree:=f w }) (by rw[hT];exact .mk f w) (h.book hb hi hA hL hbk hdf (by omega) (by rw[hdd];rfl) hn fun blk' hb1 _=>hm4 hlast blk' hb1 _ _)
     ·have hn:=hn1 w g' _ _ v wt hr hwt hv hst hlast e1;exact done e1 (s':={ D i with stage:=1,deaf:=1,st:=w.setCell (stA Wg) (.int .u64 (v * KK+wt)),tree:=f w }) (by rw[hT];exact .mk f w) (h.book hb hi hA hL hbk hdf (by omega) (by rw[hdd];rfl) hn fun blk' hb1 _=>hm1 hlast blk' hb1 _ _)
    have hVu:∀(T:Tree) (st':World) (s:Nat),s<=4->Vc (base+Qs.length) (upd D i { D i with stage:=s,deaf:=1,st:=st',tree:=T })+1=Vc (base+Qs.length) D:=by
     intro T st' s hs4;have:=qpx (D:=D) { D i with stage:=s,deaf:=1,st:=st',tree:=T } hi;have c0:cnt { D i with stage:=s,deaf:=1,st:=st',tree:=T }=0:=by simp[cnt];omega
     omega
    have hmode:=h.mode;generalize hVV:Vc (base+Qs.length) D=V at *;have noq:¬qrs (base+Qs.length) D:=fun hq=>by have:=hq i hi;omega
    have hpend:tag.pend<=1:=by cases tag <;> simp[Tag.pend]
    cases hmode with
    |free hq=>exact absurd hq noq
    | opn h1 h2 h3 h4 h5 =>
      rw[hVV] at h3 h4 h5;have hV2:V+tag.pend - 1<2147483647:=by omega
      refine key (V+tag.pend - 1) 0 (by omega) (by rw[show ((V+tag.pend - 1:Nat):Int)+1=((V+tag.pend:Nat):Int) by omega];simpa using h5) hV2 (fun _ blk' hb1 T st'=>?_) (fun e=>by omega);have hvu:=hVu T st' 1 (by omega);have hb0:blk'=false:=hb1.elim id id;subst hb0;refine .opn h1 (qci _ (.inr (.inr (.inr rfl))) h2) (fun b e=>?_) (fun vs e=>?_) ?_
      ·have:=h3 b e;omega
      ·have:=h4 vs e;omega
      ·have:=h5.setSt (((V+tag.pend - 1:Nat):Int) * KK+(0:Nat));rw[show Vc (base+Qs.length) (upd D i { D i with stage:=1,deaf:=1,st:=st',tree:=T })+tag.pend=V+tag.pend - 1 by omega];simpa using this
    | reg h1 h2 h3 =>
      rw[hVV] at h2 h3;refine key (V - 1) 1 (by omega) (by rw[show ((V - 1:Nat):Int)+1=(V:Int) by omega];simpa using h3) (by omega) (fun hne blk' hb1 T st'=>?_) (fun he blk' hb1 T st'=>?_)
      ·have hvu:=hVu T st' 1 (by omega);refine .reg (qci _ (.inr (.inr (.inr rfl))) h1) (by omega) ?_;have:=h3.setSt (((V - 1:Nat):Int) * KK+(1:Nat));rw[show Vc (base+Qs.length) (upd D i { D i with stage:=1,deaf:=1,st:=st',tree:=T })=V - 1 by omega];simpa using this
      ·have hv1:V=1:=by omega
       have hq:∀a,a<base+Qs.length->a≠i->(D a).stage=1:=by
        have hq4:=hVu T st' 1 (by omega);have:=qga (D:=upd D i { D i with stage:=1,deaf:=1,st:=st',tree:=T }) (qci _ (.inr (.inr (.inr rfl))) h1) (by omega);intro a ha e;have:=this a ha;rwa [upd_ne D _ e] at this
       refine .last i hi (by rw[upd_same];exact .inl rfl) (fun a ha e=>by rw[upd_ne D _ e];exact hq a ha e) ?_;rw[upd_same];have:=h3.setSt (((V - 1:Nat):Int) * KK+(1:Nat));subst hv1;simpa using this
    | last L h1 h2 h3 h4 =>
      exfalso
      by_cases e:i=L
      ·subst e;omega
      ·have:=h3 i hi e;omega
    |sema hq _=>exact absurd hq noq
    |fin _ hq _=>exact absurd hq noq
  | @d2 f OB gB wB hrun' hgo hnx =>
    obtain⟨rfl,hoth,hst⟩:=h.mode.isLast hi (by omega);rw[hs] at hst;obtain⟨g',e1⟩:=hgo w hr (by simpa using hst);have hn:=hnx w g' w _ hr (by simpa using hst) e1;refine done e1 (s':={ D i with stage:=3,deaf:=1,st:=w,tree:=f w }) (by rw[hT];exact .mk f w) (h.book hb hi (.refl Wg w) id (by intro e he;simp at he;subst he;exact .inr (.inr ⟨_,_,rfl,rfl⟩)) (by rw[hdd];intro jx e he;match jx,he with|0,_=>exact .inr (by simp[deafBehind])|jx+1,he=>simp at he) (by omega) (by rw[hdd];rfl) hn fun blk' hb1 _=>?_);refine .last i hi (by rw[upd_same];exact .inr (.inl rfl)) (fun a ha e=>by rw[upd_ne D _ e];exact hoth a ha e) ?_;rw[upd_same];simpa using hst
  | @d3 f OB gB wB hrun' hgo hnx =>
    obtain⟨rfl,hoth,hst⟩:=h.mode.isLast hi (by omega);rw[hs] at hst;obtain⟨g',e1⟩:=hgo w hr (by simpa using hst);have hn:=hnx w g' _ _ hr (by simpa using hst) e1;refine done e1 (s':={ D i with stage:=2,deaf:=1,st:=w.setCell (stA Wg) (.int .u64 0),tree:=f w }) (by rw[hT];exact .mk f w) (h.book hb hi (aside_setCell w (stA Wg) _) (fun _=>⟨_,_,hst.setSt _⟩) (by intro e he;simp at he;subst he;exact .inr (.inr ⟨_,_,rfl,rfl⟩)) (by rw[hdd];intro jx e he;match jx,he with|0,_=>exact .inr (by simp[deafBehind])|jx+1,he=>simp at he) (by omega) (by rw[hdd];rfl) hn fun blk' hb1 _=>?_);refine .last i hi (by rw[upd_same];exact .inr (.inr rfl)) (fun a ha e=>by rw[upd_ne D _ e];exact hoth a ha e) ?_;rw[upd_same];simpa using hst.setSt 0
  | @d4 f OB gB wB hrun' hmw hgo hnx =>
    obtain⟨rfl,hoth,hst⟩:=h.mode.isLast hi (by omega);rw[hs] at hst;obtain⟨g',e1,er⟩:=hgo w hr (by simpa using hst);have hn:=hnx w g' _ _ hr (by simpa using hst) e1;refine done e1 (s':={ D i with stage:=1,deaf:=1,st:=w.setCell (smA Wg) (.int .u32 1),tree:=f w }) (by rw[hT];exact .mk f w) (h.book hb hi (aside_setCell w (smA Wg) _) (fun _=>⟨_,_,hst.setSm _⟩) ?_ ?_ (by omega) (by rw[hdd];simp[deafBehind,semEvents]) hn fun blk' hb1 hb2=>?_)
    ·intro e he;simp[semEvents] at he;rcases he with rfl|rfl|rfl|rfl
     ·exact .inl rfl
     ·exact .inr (.inr ⟨_,_,rfl,rfl⟩)
     ·exact .inr (.inr ⟨_,_,rfl,rfl⟩)
     ·exact .inr (.inl rfl)
    ·rw[hdd];intro jx e he;match jx,he with
     |0,he=>simp[semEvents] at he;subst he;exact .inl rfl
     |1,_=>exact .inr (by simp[deafBehind,semEvents])
     |2,_=>exact .inr (by simp[deafBehind,semEvents])
     |3,he=>simp[semEvents] at he;subst he;exact .inl rfl
     |jx+4,he=>simp[semEvents] at he
    ·obtain rfl:=hb2 hmw er;refine .sema (fun a ha=>?_) (by simpa using hst.setSm 1);by_cases e:a=i
     ·subst e;rw[upd_same]
     ·rw[upd_ne D _ e];exact hoth a ha e
  | @quit T d OB gB g' es wB hrun' hm hst hnx =>
    have hbk:∀e∈es,Bk Wg e:=fun e he=>bk_of_mute (hm e he);have hno:∀jx e,es[jx]?=some e->(MemAct.ofEvent e).touch?=none\/0<deafBehind (D i).deaf (es.extract 0 jx):=fun jx e he=>.inl (touch_mute (hm e (yaj he)));refine done (hst w) (s':={ D i with stage:=1,deaf:=deafBehind dd es,st:=w,tree:=T }) (by rw[hT];exact .mk (fun _=>T) w) (h.book hb hi (.refl Wg w) id hbk hno (by omega) (by rw[hdd]) (hnx w) fun blk' hb1 _=>(h.mode.wake hb1).congr (qch _ hs.symm))
  |fin hf=>rw[hf] at hrun;cases hrun
 ·
  have hs:=h.old i (by omega);obtain⟨T,hT⟩:∃T,(D i).tree=T:=⟨_,rfl⟩;rw[hT] at hwk;rw[hs] at hwk;obtain⟨dd,hdd⟩:∃dd,(D i).deaf=dd:=⟨_,rfl⟩;rw[hdd] at hwk;cases hwk with
  |idle hc=>omega
  | @quit T d OB gB g' es wB hrun' hm hst hnx =>
    refine done (hst w) (s':={ D i with stage:=1,deaf:=deafBehind dd es,st:=w,tree:=T }) (by rw[hT];exact .mk (fun _=>T) w) (h.worker hi (fun _=>rfl) rfl rfl rfl (fun _ _ _ _=>rfl) (yb _) rfl id (fun b hb'=>.inl hb') (hnx w) ?_ (by rw[hdd]) (fun e=>by omega) (fun e=>by omega) fun blk' hb1 _=>(h.mode.wake hb1).congr (qch _ hs.symm));have ho:(fun k=>(upd D i { D i with stage:=1,deaf:=deafBehind dd es,st:=w,tree:=T } k).own)=fun k=>(D k).own:=by
     funext k;by_cases e:k=i
     ·subst e;rw[upd_same]
     ·rw[upd_ne D _ e]
    rw[ho];refine h.tl.mute (g:=i+1) (by omega) fun op hop=>?_;obtain⟨e,he,rfl⟩:=Conc.mem_ofEvents hop;refine⟨rfl,touch_mute (hm e he),low_mute (hm e he) _,fun a ha=>?_⟩;have:=loc_of_ofEvent ha;obtain⟨loc,wr,sy⟩:=e;simp only at this;subst this;have:=hm _ he;simp[Event.mute] at this
  |fin hf=>rw[hf] at hrun;cases hrun
end
def Tot(P:Program)(Post:Value->World->Prop)(m:Machine)(t:Trace):Prop:=
 ∃N last o w t',runNT P (N+1) m t=(.ended o w,t')/\runN P N m=.next last/\step P last=.ended o w/\Good P Post last o w t'
section
variable {P:Program}{Post:Value->World->Prop}{m m':Machine}{t ops:Trace}
theorem Tot.next(hs:stepT P m=(.next m',ops))(h:Tot P Post m' (t++ops)):Tot P Post m t:=by
 obtain⟨n,last,o,w,t',h1,h2,h3,h4⟩:=h;exact⟨n+1,last,o,w,t',by rw[runNT_succ_next hs];exact h1,by rw[runN_succ_next hs];exact h2,h3,h4⟩
theorem Tot.ended{o:Outcome}{w:World}(hs:stepT P m=(.ended o w,ops))(h:Good P Post m o w (t++ops)):Tot P Post m t:=
 ⟨0,m,o,w,t++ops,by simp[runNT,hs],rfl,by simp[step,hs],h⟩
end
section
variable {P:Program}{ty:TypeId}{Post:Value->World->Prop}{Wg:Nat}{Qs:List Fact}{tag:Tag}{blk:Bool}{O K:Nat->Prop}{g:Goroutine}{wst:World}{W:Nat->Prop}{base:Nat}{D:Nat->WS}{gs:Array Goroutine}{w w':World}{t:Trace}
theorem Inv.awake(h:Inv P ty Wg Qs tag blk O K g wst W base D gs w t):∀x∈gs,Conc.awake x:=by
 intro x hx tm;obtain⟨i,hi⟩:=Array.mem_iff_getElem?.1 hx;cases i with
 | zero =>
   rw[h.main] at hi;cases hi;cases blk
   ·simp[h.run]
   ·simp
 | succ i =>
   have hlt:i<base+Qs.length:=by have:=(yk.1 hi).1;rw[h.size] at this;omega
   obtain⟨y,hy,hk⟩:=h.wk i hlt;rw[hi] at hy;cases hy;rcases hk.status.1 with e|e <;> rw[e] <;> simp
theorem Inv.someone(h:Inv P ty Wg Qs tag blk O K g wst W base D gs w t):∃(i:Nat) (x:Goroutine),gs[i]?=some x/\x.status=.running:=by
 cases hb:blk with
 |false=>have:=h.main;rw[hb] at this;exact⟨0,g,this,h.run⟩
 | true =>
   have hm:=h.mode;rw[hb] at hm;cases hm with
   | reg _ h2 _ =>
     obtain⟨i,hi,h5⟩:=qcp h2;obtain⟨x,hx,hk⟩:=h.wk i hi;exact⟨i+1,x,hx,hk.status.2 (by omega)⟩
   | last L h1 h2 _ _ =>
     obtain⟨x,hx,hk⟩:=h.wk L h1;exact⟨L+1,x,hx,hk.status.2 (by omega)⟩
theorem drive (hmain:∀W base D gs w sl t,Inv P ty Wg Qs tag false O K g wst W base D gs w t->
 (∃m' ops,runT P (crowd gs w sl) 0=(.next m',ops)/\Tot P Post m' (t++ops))\/
 (∃o w' ops,runT P (crowd gs w sl) 0=(.ended o w',ops)/\∀wK slA,Good P Post (crowd gs wK slA) o w' (t++ops))\/
 (∃gs',runT P (crowd gs w sl) 0=(.next (crowd gs' w sl),#[])/\Inv P ty Wg Qs tag true O K g wst W base D gs' w t)) :
 ∀(sl:Option (Nat × Nat)),Inv P ty Wg Qs tag blk O K g wst W base D gs w t->Tot P Post (crowd gs w sl) t:=by
 have key:∀l,Acc LStep l->∀blk W base D gs w sl t,(List.range' 0 (base+Qs.length)).map (fun i=>(D i).tree)=l->Inv P ty Wg Qs tag blk O K g wst W base D gs w t->Tot P Post (crowd gs w sl) t:=by
  intro l hl;induction hl with
  | intro l _ ih =>
    have workers:∀blk W base D gs w sl t,(List.range' 0 (base+Qs.length)).map (fun i=>(D i).tree)=l->Inv P ty Wg Qs tag blk O K g wst W base D gs w t->∀i x,gs[i+1]?=some x->x.status=.running->
     ∃m' ops,runT P (crowd gs w sl) (i+1)=(.next m',ops)/\Tot P Post m' (t++ops):=by
     intro blk W base D gs w sl t hl h i x hx hrun;have hi:i<base+Qs.length:=by have:=(yk.1 hx).1;rw[h.size] at this;omega
     obtain⟨blk',s',gs',w',ops,e1,e2,hI⟩:=qjd h hi hx hrun sl;refine⟨_,ops,e1,ih _ ?_ _ _ _ _ _ _ _ _ rfl hI⟩;rw[<-hl];exact LStep.upd (i:=i) (f:=fun i=>(D i).tree) (f':=fun k=>(upd D i s' k).tree) (by omega) (by omega) (by simp only[upd_same];exact e2) (fun k e=>by rw[upd_ne D _ e])
    have onTrue:∀W base D gs w sl t,(List.range' 0 (base+Qs.length)).map (fun i=>(D i).tree)=l->Inv P ty Wg Qs tag true O K g wst W base D gs w t->Tot P Post (crowd gs w sl) t:=by
     intro W base D gs w sl t hl h;obtain⟨i,x,d,sl',hi,hg,hst⟩:=crowd_pick (P:=P) (w:=w) (sl:=sl) h.awake h.someone;cases i with
     |zero=>rw[h.main] at hi;cases hi;simp at hg
     | succ i =>
       obtain⟨m',ops,e1,e2⟩:=workers _ _ _ _ _ _ sl' _ hl (h.at d) i x hi hg;exact .next (hst.trans e1) e2
    intro blk W base D gs w sl t hl h;cases hb:blk with
    |true=>rw[hb] at h;apply onTrue;exact hl;exact h
    | false =>
      rw[hb] at h;obtain⟨i,x,d,sl',hi,hg,hst⟩:=crowd_pick (P:=P) (w:=w) (sl:=sl) h.awake h.someone;cases i with
      | zero =>
        rcases hmain _ _ _ _ _ sl' _ (h.at d) with ⟨m',ops,e1,e2⟩|⟨o,w',ops,e1,e2⟩|⟨gs',e1,e2⟩
        ·exact .next (hst.trans e1) e2
        ·exact .ended (hst.trans e1) (e2 _ _)
        ·exact .next (hst.trans e1) (by simpa using onTrue _ _ _ _ _ sl' _ hl e2)
      | succ i =>
        obtain⟨m',ops,e1,e2⟩:=workers _ _ _ _ _ _ sl' _ hl (h.at d) i x hi hg;exact .next (hst.trans e1) e2
 intro sl h;apply key _ (LStep.acc _);exact rfl;exact h
theorem Main.run{Wg:Nat}{Qs:List Fact}{tag:Tag}{O K:Nat->Prop}{g:Goroutine}{w:World}(h:Main P ty Post Wg Qs tag O K g w):g.status=.running:=by
 induction h <;> assumption
theorem Inv.step0(h:Inv P ty Wg Qs tag false O K g wst W base D gs w t){tag':Tag}{O':Nat->Prop}{g':Goroutine}{es:Array Event}(hrun:g'.status=.running)
 (hframe:∀b,b<w.heap.size->¬O b->¬W b->w'.heap[b]?=w.heap[b]?) (hsz:w.heap.size<=w'.heap.size) (hos:w'.eo=w.eo) (hlive:tag≠.free->WgLive ty Wg w->WgLive ty Wg w')
 (hO:∀b,O' b->O b\/(w.heap.size<=b/\b<w'.heap.size)) (hok:OkU 0 O' K W w'.heap.size (MemOp.ofEvents 0 g.frame.fn g.frame.place es))
 (hdeaf:deafBehind tag.deaf es=tag'.deaf) (hfree:tag'=.free↔tag=.free) (hmode:MD ty Wg (base+Qs.length) D w' tag' false) (hfew:Qs.length+tag'.pend<2147483648) :
 Inv P ty Wg Qs tag' false O' K g' w' W base D ((gs.map (woken P g g' w')).setIfInBounds 0 g') w' (t++MemOp.ofEvents 0 g.frame.fn g.frame.place es):=by
 have S:=h.sets;refine⟨get_map_set_same _ _ _ (by rw[h.size];omega),hrun,by simp,.refl _ _ _ _,by simp[h.size],fun k hk=>?_,fun k k1 k2=>?_,h.old,h.qs,fun e=>h.nofree (hfree.1 e),fun e=>h.wg fun e'=>e (hfree.2 e'),?_,h.tl.app0 S hsz (fun b hb=>(hO b hb).imp id fun x=>x.1) hok,?_,fun k hk=>?_,fun k k1 k2 k3=>?_,h.q,hmode,hfew⟩
 ·obtain⟨y,hy,hsy⟩:=h.wk k hk;refine⟨y,?_,hsy⟩;rw[get_map_set _ _ _ _ (by omega),hy,yp];unfold woken;split
  ·rw[again_running w' hsy.status.1]
  ·rfl
 ·refine(h.rely k k1 k2).trans ⟨fun b hb=>hframe b (S.lt k k2 b hb) (fun ho=>?_) (fun hW=>?_),hsz,hos,hlive fun e=>by have:=h.nofree e;subst this;simp at k2;omega⟩
  ·exact hb.elim (S.o0 k k2 b ho).1 (S.o0 k k2 b ho).2
  ·exact hb.elim (S.wi k k2 b hW).1 (S.wi k k2 b hW).2
 ·refine⟨fun b hb=>?_,fun k hk b hb=>yg (S.lt k hk b hb) hsz,fun b hb hk=>?_,fun b hb=>⟨fun ho=>?_,(S.w0 b hb).2⟩,S.wi,fun k hk b hb=>?_,S.k0,S.oo,S.or⟩
  ·rcases hb with hb|hb
   ·rcases hO b hb with h1|⟨_,h1⟩
    ·exact yg (S.lt0 b (.inl h1)) hsz
    ·exact h1
   ·exact yg (S.lt0 b (.inr hb)) hsz
  ·rcases hO b hb with h1|⟨h1,_⟩
   ·exact S.ok b h1 hk
   ·exact absurd (S.lt0 b (.inr (.inl hk))) (yan.2 h1)
  ·rcases hO b ho with h1|⟨h1,_⟩
   ·exact(S.w0 b hb).1 h1
   ·exact absurd (S.lt0 b (.inr (.inr hb))) (yan.2 h1)
  ·rcases hO b hb with h1|⟨h1,_⟩
   ·exact S.o0 k hk b h1
   ·exact⟨fun hx=>absurd (S.lt k hk b (.inl hx)) (yan.2 h1),fun hx=>absurd (S.lt k hk b (.inr hx)) (yan.2 h1)⟩
 ·rw[Deaf_own,h.deaf0];exact hdeaf
 ·rw[Deaf_other t (g':=0) (by omega) _ g_of_ofEvents];exact h.deafW k hk
 ·obtain⟨r,hr⟩:=h.rel k k1 k2 k3;exact⟨r,hr.other g_of_ofEvents (by omega)⟩
theorem Inv.book0(h:Inv P ty Wg Qs tag false O K g wst W base D gs w t){tag':Tag}{g':Goroutine}{es:Array Event}(hrun:g'.status=.running)(hnf:tag≠.free)(hnf':tag'≠.free)
 (hA:Aside Wg w w') (hl:WgLive ty Wg w') (hes:∀e∈es,Bk Wg e) (hdeaf:deafBehind tag.deaf es=tag'.deaf) (hmode:MD ty Wg (base+Qs.length) D w' tag' false) (hfew:Qs.length+tag'.pend<2147483648) :
 Inv P ty Wg Qs tag' false O K g' w' W base D ((gs.map (woken P g g' w')).setIfInBounds 0 g') w' (t++MemOp.ofEvents 0 g.frame.fn g.frame.place es):=
 have hWg:=h.wg hnf;h.step0 hrun (fun b _ _ hb=>hA.block b fun e=>hb (e▸hWg)) (by rw[hA.size];exact yb _) (Go.Pm.eo_of hA.os hA.output) (fun _ _=>hl) (fun b hb=>.inl hb)
  (qpw hWg (by rw[hA.size];exact h.sets.lt0 Wg (.inr (.inr hWg))) hes) hdeaf ⟨fun e=>absurd e hnf',fun e=>absurd e hnf⟩ hmode hfew
theorem bkd:∀e∈#[mk .disable],Bk Wg e:=by intro e he;simp at he;subst he;exact .inl rfl
theorem bke:∀e∈#[mk .enable],Bk Wg e:=by intro e he;simp at he;subst he;exact .inr (.inl rfl)
theorem bkr:∀e∈#[rd (stA Wg)],Bk Wg e:=by intro e he;simp at he;subst he;exact .inr (.inr ⟨_,_,rfl,rfl⟩)
theorem bkrw:∀e∈#[rd (stA Wg),wr (stA Wg)],Bk Wg e:=by intro e he;simp at he;rcases he with rfl|rfl <;> exact .inr (.inr ⟨_,_,rfl,rfl⟩)
theorem bks:∀e∈semEvents (smA Wg),Bk Wg e:=by
 intro e he;simp[semEvents] at he;rcases he with rfl|rfl|rfl|rfl
 ·exact .inl rfl
 ·exact .inr (.inr ⟨_,_,rfl,rfl⟩)
 ·exact .inr (.inr ⟨_,_,rfl,rfl⟩)
 ·exact .inr (.inl rfl)
theorem MD.open_inv{j:Nat}(h:MD ty Wg j D w tag blk)(ho:tag.open):OpenSt j D/\(∀b,tag=.an b->Vc j D<=b)/\(∀vs,tag=.w2 vs->Vc j D<=vs/\1<=vs)/\WgAt ty Wg w (((Vc j D+tag.pend:Nat):Int) * KK) 0:=by
 cases h with
 |opn _ h2 h3 h4 h5=>exact⟨h2,h3,h4,h5⟩
 |fin h1=>cases tag <;> first|exact h1.elim|exact ho.elim
 |_=>exact ho.elim
theorem MD.fin_inv{j:Nat}(h:MD ty Wg j D w tag blk)(ho:tag.fin):qrs j D/\WgAt ty Wg w 0 0:=by
 cases h with
 |fin _ h2 h3=>exact⟨h2,h3⟩
 |opn h1=>cases tag <;> first|exact h1.elim|exact ho.elim
 |_=>exact ho.elim
theorem Inv.fork(h:Inv P ty Wg Qs .go false O K g wst W base D gs w t){Q:Fact}{Bs R:Nat->Prop}{T:Tree}{g' child:Goroutine}(hrun:g'.status=.running)(hlen:Qs.length<2147483647)
 (hB:∀b,Bs b->O b) (hR:∀b,R b->O b\/K b) (hBR:∀b,Bs b->¬R b) (hc:Wk P ty Wg Q R T 7 0 Bs child w) {x y:MemOp} (hx:x.g=0/\x.act=.go (base+Qs.length+1)) (hy:y.g=base+Qs.length+1/\y.act=.start) :
 Inv P ty Wg (Qs++[Q]) .sp false (fun b=>O b/\¬Bs b/\¬R b) (fun b=>K b\/R b) g' w W base (upd D (base+Qs.length) ⟨7,0,Bs,R,Q,w,T⟩) ((gs.setIfInBounds 0 g').push child) w (t++#[x,y]):=by
 have S:=h.sets;have hj:base+(Qs++[Q]).length=base+Qs.length+1:=by simp;omega
 have hsz:(gs.setIfInBounds 0 g').size=base+Qs.length+1:=by simp[h.size]
 obtain⟨ho,_,_,hst⟩:=h.mode.open_inv trivial;have hne:∀op∈#[x,y],op.act≠.mark .disable/\op.act≠.mark .enable:=by
  intro op hop;simp at hop;rcases hop with rfl|rfl
  ·rw[hx.2];simp
  ·rw[hy.2];simp
 have hlt:∀k,k<base+Qs.length->upd D (base+Qs.length) ⟨7,0,Bs,R,Q,w,T⟩ k=D k:=fun k hk=>upd_ne D _ (by omega);rw[<-hj] at hx hy;refine⟨?_,hrun,by simp,.refl _ _ _ _,by rw[Array.size_push,hsz,hj],fun k hk=>?_,fun k k1 k2=>?_,fun k hk=>?_,fun k hk=>?_,fun e=>(by cases e),fun _=>h.wg (by simp),?_,?_,?_,fun k hk=>?_,fun k k1 k2 k3=>?_,fun k k1 k2 k3=>?_,?_,by simp[Tag.pend];omega⟩
 ·rw[Array.getElem?_push_lt (by rw[hsz];omega),<-yl];simp[h.size]
 ·by_cases e:k=base+Qs.length
  ·subst e;rw[upd_same];refine⟨child,?_,hc⟩;rw[<-hsz];exact Array.getElem?_push_size
  ·obtain⟨z,hz,hk'⟩:=h.wk k (by omega);rw[hlt k (by omega)];refine⟨z,?_,hk'⟩;rw[Array.getElem?_push_lt (by rw[hsz];omega),<-yl,yP (by omega)];exact hz
 ·by_cases e:k=base+Qs.length
  ·subst e;rw[upd_same];exact .refl _ _ _ _
  ·rw[hlt k (by omega)];exact h.rely k k1 (by omega)
 ·rw[hlt k (by omega)];exact h.old k hk
 ·by_cases e:k=Qs.length
  ·subst e;rw[upd_same];simp
  ·have hk':k<Qs.length:=by simp at hk;omega
   rw[hlt _ (by omega),y7 hk'];exact h.qs k hk'
 ·have hown:∀k b,(upd D (base+Qs.length) ⟨7,0,Bs,R,Q,w,T⟩ k).own b->(k≠base+Qs.length/\(D k).own b)\/(k=base+Qs.length/\Bs b):=fun k b hb=>by
   by_cases e:k=base+Qs.length
   ·subst e;rw[upd_same] at hb;exact .inr ⟨rfl,hb⟩
   ·rw[upd_ne D _ e] at hb;exact .inl ⟨e,hb⟩
  have hro:∀k b,(upd D (base+Qs.length) ⟨7,0,Bs,R,Q,w,T⟩ k).ro b->(k≠base+Qs.length/\(D k).ro b)\/(k=base+Qs.length/\R b):=fun k b hb=>by
   by_cases e:k=base+Qs.length
   ·subst e;rw[upd_same] at hb;exact .inr ⟨rfl,hb⟩
   ·rw[upd_ne D _ e] at hb;exact .inl ⟨e,hb⟩
  have hRlt:∀b,R b->b<w.heap.size:=fun b hb=>(hR b hb).elim (fun x=>S.lt0 b (.inl x)) fun x=>S.lt0 b (.inr (.inl x));have hRW:∀b,W b->¬R b:=fun b hb hr=>(hR b hr).elim (S.w0 b hb).1 (S.w0 b hb).2;rw[hj];refine⟨fun b hb=>?_,fun k hk b hb=>?_,fun b hb hk=>?_,fun b hb=>⟨fun ho=>(S.w0 b hb).1 ho.1,fun hk=>hk.elim (S.w0 b hb).2 (hRW b hb)⟩,fun k hk b hb=>⟨fun h1=>?_,fun h1=>?_⟩,fun k hk b hb=>⟨fun h1=>?_,fun h1=>?_⟩,fun k hk b hb h1=>?_,fun k l hk hl hne b h1 h2=>?_,fun k l hk hl b h1 h2=>?_⟩
  ·rcases hb with hb|hb|hb
   ·exact S.lt0 b (.inl hb.1)
   ·exact hb.elim (fun x=>S.lt0 b (.inr (.inl x))) (hRlt b)
   ·exact S.lt0 b (.inr (.inr hb))
  ·rcases hb with hb|hb
   ·rcases hown k b hb with ⟨e,hb⟩|⟨_,hb⟩
    ·exact S.lt k (by omega) b (.inl hb)
    ·exact S.lt0 b (.inl (hB b hb))
   ·rcases hro k b hb with ⟨e,hb⟩|⟨_,hb⟩
    ·exact S.lt k (by omega) b (.inr hb)
    ·exact hRlt b hb
  ·exact hk.elim (S.ok b hb.1) hb.2.2
  ·rcases hown k b h1 with ⟨e,h1⟩|⟨_,h1⟩
   ·exact(S.wi k (by omega) b hb).1 h1
   ·exact(S.w0 b hb).1 (hB b h1)
  ·rcases hro k b h1 with ⟨e,h1⟩|⟨_,h1⟩
   ·exact(S.wi k (by omega) b hb).2 h1
   ·exact hRW b hb h1
  ·rcases hown k b h1 with ⟨e,h1⟩|⟨_,h1⟩
   ·exact(S.o0 k (by omega) b hb.1).1 h1
   ·exact hb.2.1 h1
  ·rcases hro k b h1 with ⟨e,h1⟩|⟨_,h1⟩
   ·exact(S.o0 k (by omega) b hb.1).2 h1
   ·exact hb.2.2 h1
  ·rcases hown k b h1 with ⟨e,h1⟩|⟨_,h1⟩
   ·rcases hb with hb|hb
    ·exact S.k0 k (by omega) b hb h1
    ·exact(hR b hb).elim (fun x=>(S.o0 k (by omega) b x).1 h1) fun x=>S.k0 k (by omega) b x h1
   ·rcases hb with hb|hb
    ·exact S.ok b (hB b h1) hb
    ·exact hBR b h1 hb
  ·rcases hown k b h1 with ⟨e,h1⟩|⟨e,h1⟩
   ·rcases hown l b h2 with ⟨e2,h2⟩|⟨e2,h2⟩
    ·exact S.oo k l (by omega) (by omega) hne b h1 h2
    ·exact(S.o0 k (by omega) b (hB b h2)).1 h1
   ·rcases hown l b h2 with ⟨e2,h2⟩|⟨e2,h2⟩
    ·exact(S.o0 l (by omega) b (hB b h1)).1 h2
    ·omega
  ·rcases hown k b h1 with ⟨e,h1⟩|⟨e,h1⟩
   ·rcases hro l b h2 with ⟨e2,h2⟩|⟨e2,h2⟩
    ·exact S.or k l (by omega) (by omega) b h1 h2
    ·exact(hR b h2).elim (fun x=>(S.o0 k (by omega) b x).1 h1) fun x=>S.k0 k (by omega) b x h1
   ·rcases hro l b h2 with ⟨e2,h2⟩|⟨e2,h2⟩
    ·exact(S.o0 l (by omega) b (hB b h1)).2 h2
    ·exact hBR b h1 h2
 ·rw[hj];rw[hj] at hx hy;exact h.tl.fork (by omega) hx hy h.deaf0 hB hR (by simp only[upd_same]) (by simp only[upd_same]) (fun k e=>by simp only[upd_ne D _ e]) (fun k e=>by simp only[upd_ne D _ e])
 ·rw[ConcN.Deaf_still t 0 _ hne];exact h.deaf0
 ·rw[ConcN.Deaf_still t _ _ hne];by_cases e:k=base+Qs.length
  ·subst e;rw[upd_same];exact h.tl.above _ (by omega)
  ·rw[hlt k (by omega)];exact h.deafW k (by omega)
 ·by_cases e:k=base+Qs.length
  ·subst e;rw[upd_same] at k3;simp at k3
  ·rw[hlt k (by omega)] at k3;obtain⟨r,hr⟩:=h.rel k k1 (by omega) k3;refine⟨r,?_⟩;have e2:t++#[x,y]=(t++#[x])++#[y]:=by apply Array.ext';simp
   rw[e2];exact(hr.other (g:=0) (fun op hop=>by simp at hop;rw[hop];exact hx.1) (by omega)).other (g:=base+(Qs++[Q]).length) (fun op hop=>by simp at hop;rw[hop];exact hy.1) (by omega)
 ·by_cases e:k=base+Qs.length
  ·subst e;rw[upd_same] at k3;simp at k3
  ·rw[hlt k (by omega)] at k3 ⊢;exact h.q k k1 (by omega) k3
 ·have eV:Vc (base+Qs.length+1) (upd D (base+Qs.length) ⟨7,0,Bs,R,Q,w,T⟩)=Vc (base+Qs.length) D+1:=by
   simp only[Vc,sumTo,upd_same];rw[sumTo_upd_out D _ cnt (yb _)];rfl
  rw[hj];refine .opn trivial (fun k hk=>?_) (by simp) (by simp) (by rw[eV];exact hst);by_cases e:k=base+Qs.length
  ·subst e;rw[upd_same];exact .inl rfl
  ·rw[hlt k (by omega)];exact ho k (by omega)
theorem Inv.acquire(h:Inv P ty Wg Qs .aq false O K g wst W base D gs w t){g':Goroutine}(hrun:g'.status=.running) :
 Inv P ty Wg [] .free false (fun b=>O b\/∃i,i<Qs.length/\(D (base+i)).own b) K g' w W (base+Qs.length) (fun i=>{ D i with own:=fun _=>False,ro:=fun _=>False }) ((gs.map (woken P g g' w)).setIfInBounds 0 g') w
  (t++MemOp.ofEvents 0 g.frame.fn g.frame.place #[Go.ConcR.mk (.acquire (stA Wg))]):=by
 have S:=h.sets;obtain⟨hq,hst⟩:=h.mode.fin_inv trivial;have hWg:=h.wg (by simp);have eop:MemOp.ofEvents 0 g.frame.fn g.frame.place #[Go.ConcR.mk (.acquire (stA Wg))]=#[{ g:=0,fn:=g.frame.fn,pos:=g.frame.place,act:=.mark (.acquire (stA Wg)) }]:=by rw[ofEvents_eq];simp[ofEvent_mk]
 refine⟨get_map_set_same _ _ _ (by rw[h.size];omega),hrun,by simp,.refl _ _ _ _,by simp[h.size],fun k hk=>?_,fun k k1 k2=>by simp at k2;omega,fun k hk=>hq k (by simpa using hk),fun k hk=>by simp at hk,fun _=>rfl,fun e=>absurd rfl e,?_,?_,?_,fun k hk=>?_,fun k k1 k2=>by simp at k2;omega,fun k k1 k2=>by simp at k2;omega,.free fun k hk=>hq k (by simpa using hk),by simp[Tag.pend]⟩
 ·obtain⟨y,hy,hsy⟩:=h.wk k (by simpa using hk);have hq1:=hq k (by simpa using hk);refine⟨y,?_,?_⟩
  ·rw[get_map_set _ _ _ _ (by omega),hy,yp];unfold woken;split
   ·rw[again_running w hsy.status.1]
   ·rfl
  ·show Wk P ty Wg (D k).q (fun _=>False) (D k).tree (D k).stage (D k).deaf (fun _=>False) y (D k).st;have:=hsy.again hq1 ty Wg (D k).q (fun _=>False) (fun _=>False) (D k).st;rw[hq1];exact this
 ·refine⟨fun b hb=>?_,fun k hk b hb=>hb.elim False.elim False.elim,fun b hb hk=>?_,fun b hb=>⟨fun ho=>?_,(S.w0 b hb).2⟩,fun k hk b hb=>⟨id,id⟩,fun k hk b hb=>⟨id,id⟩,fun k hk b hb=>id,fun k l hk hl hne b hb=>hb.elim,fun k l hk hl b hb=>hb.elim⟩
  ·rcases hb with (hb|⟨i,hi,hb⟩)|hb
   ·exact S.lt0 b (.inl hb)
   ·exact S.lt _ (by omega) b (.inl hb)
   ·exact S.lt0 b (.inr hb)
  ·rcases hb with hb|⟨i,hi,hb⟩
   ·exact S.ok b hb hk
   ·exact S.k0 _ (by omega) b hk hb
  ·rcases ho with ho|⟨i,hi,ho⟩
   ·exact(S.w0 b hb).1 ho
   ·exact(S.wi _ (by omega) b hb).1 ho
 ·rw[eop];refine h.tl.acquire (a:=stA Wg) (fun k k1 k2=>h.rel k k1 k2 (by rw[hq k k2];omega)) h.deaf0 ⟨rfl,rfl⟩ (S.lt0 Wg (.inr (.inr hWg))) (fun b hb hW=>?_) (fun _ _=>id) (fun _ _=>id);rcases hb with hb|⟨i,hi,hb⟩
  ·exact(S.w0 b hW).1 hb
  ·exact(S.wi _ (by omega) b hW).1 hb
 ·rw[Deaf_own,h.deaf0];rfl
 ·rw[Deaf_other t (g':=0) (by omega) _ g_of_ofEvents];exact h.deafW k (by simpa using hk)
theorem Inv.enter{WgA:Nat}(h:Inv P ty WgA [] .free blk O K g wst W base D gs w t)(hO:O Wg)(hW:WgAt ty Wg wst 0 0):Inv P ty Wg [] .sp blk (fun b=>O b/\b≠Wg) K g wst (fun b=>W b\/b=Wg) base D gs w t:=by
 have S:=h.sets;have hW':WgAt ty Wg w 0 0:=(h.rely0.own Wg (.inl hO)).trans hW;have hq:qrs (base+0) D:=by
  have:=h.mode;cases this with
  |free hq=>exact hq
  |opn h1=>exact h1.elim
  |fin h1=>exact h1.elim
 have hb:blk=false:=by
  have:=h.mode;cases this <;> rfl
 have hv:Vc (base+0) D=0:=by have:=Vc_le (D:=D) (base+0) base (by omega) h.old;omega
 have htl:=h.tl;simp only[yD,ya4] at htl;refine⟨h.main,h.run,h.hblk,⟨fun b hb'=>h.rely0.own b (hb'.imp (fun x=>x.1) id),h.rely0.size,h.rely0.os,fun _ _=>⟨0,0,hW'⟩⟩,h.size,fun k hk=>?_,fun k k1 k2=>by simp at k2;omega,h.old,h.qs,fun e=>(by cases e),fun _=>.inr rfl,?_,?_,h.deaf0,h.deafW,fun k k1 k2=>by simp at k2;omega,fun k k1 k2=>by simp at k2;omega,?_,by simp[Tag.pend]⟩
 ·obtain⟨y,hy,hsy⟩:=h.wk k hk;have h1:=h.old k (by simpa using hk);refine⟨y,hy,?_⟩;have:=hsy.again h1 ty Wg (D k).q (D k).ro (D k).own (D k).st;rw[h1];exact this
 ·refine⟨fun b hb'=>?_,S.lt,fun b hb'=>S.ok b hb'.1,fun b hb'=>⟨fun x=>?_,fun x=>?_⟩,fun k hk b hb'=>?_,fun k hk b hb'=>S.o0 k hk b hb'.1,S.k0,S.oo,S.or⟩
  ·rcases hb' with hb'|hb'|hb'|rfl
   ·exact S.lt0 b (.inl hb'.1)
   ·exact S.lt0 b (.inr (.inl hb'))
   ·exact S.lt0 b (.inr (.inr hb'))
   ·exact S.lt0 _ (.inl hO)
  ·rcases hb' with hb'|rfl
   ·exact(S.w0 b hb').1 x.1
   ·exact x.2 rfl
  ·rcases hb' with hb'|rfl
   ·exact(S.w0 b hb').2 x
   ·exact S.ok _ hO x
  ·rcases hb' with hb'|rfl
   ·exact S.wi k hk b hb'
   ·exact S.o0 k hk _ hO
 ·simp only[yD,ya4];exact htl.enter hO
 ·subst hb;exact .opn trivial (fun k hk=>.inr (.inr (.inr (hq k hk)))) (by simp) (by simp) (by simp only[yD,hv];simpa[Tag.pend] using hW')
end
section
variable {P:Program}{ty:TypeId}{Post:Value->World->Prop}{Wg:Nat}{Qs:List Fact}{tag:Tag}{O K:Nat->Prop}{g:Goroutine}{wst:World}
theorem Inv.main0{W:Nat->Prop}{base:Nat}{D:Nat->WS}{gs:Array Goroutine}{w:World}{t:Trace}(h:Inv P ty Wg Qs tag false O K g wst W base D gs w t):gs[0]?=some g:=by simpa using h.main
theorem qog(h:Main P ty Post Wg Qs tag O K g wst):∀{blk:Bool}{W:Nat->Prop}{base:Nat}{D:Nat->WS}{gs:Array Goroutine}{w:World} (sl:Option (Nat × Nat)) {t:Trace},
 Inv P ty Wg Qs tag blk O K g wst W base D gs w t->Tot P Post (crowd gs w sl) t:=by
 induction h with
 | @idle Wg Qs tag O K g wst hrun hgo hnx ih =>
   intro blk W base D gs w sl t h;refine drive (fun W base D gs w sl t h=>.inl ?_) sl h;obtain⟨g',w',es,e1,e2⟩:=hgo w h.rely0;have hn:=hnx w g' w' es h.rely0 e1;have hWb:tag≠.free->w'.heap[Wg]?=w.heap[Wg]?:=fun hf=>e2.frame Wg (h.sets.lt0 Wg (.inr (.inr (h.wg hf)))) (h.sets.w0 Wg (h.wg hf)).1;refine⟨_,_,runT_crowd_go (P:=P) (sl:=sl) (i:=0) h.main0 (by simpa using e1),ih w g' w' es h.rely0 e1 sl (h.step0 hn.run (fun b h1 h2 _=>e2.frame b h1 h2) e2.size e2.os (fun hf ⟨st,sm,hl⟩=>⟨st,sm,(hWb hf).trans hl⟩) (fun b hb=>hb) ?_ ?_ .rfl (h.mode.block hWb) h.few)⟩
   ·exact qgy (fun b hb=>hb.elim (fun x=>yg (h.sets.lt0 b (.inl x)) e2.size) fun x=>x.2) (fun b hb=>yg (h.sets.lt0 b (.inr (.inl hb))) e2.size) e2.evs (fun e ⟨hf,a,ha,hx⟩=>⟨rfl,a,ha▸h.wg hf,ha▸yg (h.sets.lt0 Wg (.inr (.inr (h.wg hf)))) e2.size,hx⟩)
   ·refine deafBehind_still (fun e he=>?_) _;rcases e2.evs e he with hx|⟨_,a,_,hx|hx⟩
    ·exact qmk hx
    ·rw[hx];simp
    ·rw[hx];simp
 | @fin Wg O K g wst hrun hgo =>
   intro blk W base D gs w sl t h;refine drive (fun W base D gs w sl t h=>.inr (.inl ?_)) sl h;obtain⟨v,es,e1,e2,e3⟩:=hgo w h.rely0;have htl:=h.tl.app0 (u:=MemOp.ofEvents 0 g.frame.fn g.frame.place es) h.sets (yb _) (fun b hb=>.inl hb) (qgy (X:=fun _=>False) (fun b hb=>h.sets.lt0 b (.inl hb)) (fun b hb=>h.sets.lt0 b (.inr (.inl hb))) (fun e he=>.inl (e2 e he)) (fun _ x=>x.elim));have hq:qrs (base+([]:List Fact).length) D:=by
    have:=h.mode;cases this with
    |free hq=>exact hq
    |opn h1=>exact h1.elim
    |fin h1=>exact h1.elim
   have wkq:∀i x,gs[i]?=some x->i≠0->∃n,QuitsD P n (D (i - 1)).deaf x/\i - 1<base+([]:List Fact).length:=by
    intro i x hx hi0;obtain⟨k,rfl⟩:∃k,i=k+1:=⟨i - 1,by omega⟩;have hlt:k<base+([]:List Fact).length:=by have:=(yk.1 hx).1;rw[h.size] at this;omega
    obtain⟨y,hy,hk⟩:=h.wk k hlt;rw[hx] at hy;cases hy;obtain⟨n,hn⟩:=hk.quits (hq k hlt);exact⟨n,hn,hlt⟩
   refine⟨_,_,_,runT_many_ended (P:=P) (sl:=sl) (i:=0) h.main0 (show stepG P (0 == 0) g w=_ from e1),fun wK slA=>⟨v,rfl,e3,htl.clean,fun i g' hg hne hc=>?_,⟨fun x hx=>?_,rfl⟩,fun i x hx hi0=>?_⟩⟩
   ·exact(htl.over i g' hg hne hc).resolve_right fun ⟨k,k1,k2,_⟩=>by simp at k2;omega
   ·obtain⟨i,hi⟩:=yaP.1 hx;rw[List.getElem?_drop] at hi;obtain⟨n,hn,_⟩:=wkq (1+i) x (by simpa[crowd] using hi) (by omega);exact⟨n,hn.leaves⟩
   ·obtain⟨n,hn,hlt⟩:=wkq i x hx hi0;refine⟨n,?_⟩;have e:(t++MemOp.ofEvents 0 g.frame.fn g.frame.place es).deaf i (t++MemOp.ofEvents 0 g.frame.fn g.frame.place es).size=(D (i - 1)).deaf:=by
     have:=Deaf_other t (g:=i) (g':=0) (by omega) _ (g_of_ofEvents (fn:=g.frame.fn) (pos:=g.frame.place) (es:=es));have h2:=h.deafW (i - 1) hlt;rw[show i - 1+1=i by omega] at h2;rw[h2] at this;exact this
    show x.endsWith P _ n _=some 0;rw[e];exact hn.hears _
 | @enter WgA Wg O K g wst hO hW hnx ih =>
   intro blk W base D gs w sl t h;exact ih sl (h.enter hO hW)
 | @kd Wg Qs O K g wst hrun hgo hnx ih =>
   intro blk W base D gs w sl t h;refine drive (fun W base D gs w sl t h=>.inl ?_) sl h;obtain⟨g',e1⟩:=hgo w h.rely0;obtain⟨ho,_,_,hst⟩:=h.mode.open_inv trivial;refine⟨_,_,runT_crowd_go (P:=P) (sl:=sl) (i:=0) h.main0 (by simpa using e1),ih w g' w _ h.rely0 e1 sl (h.book0 (hnx w g' w _ h.rely0 e1).run (by simp) (by simp) (.refl Wg w) ⟨_,_,hst⟩ bkd rfl (.opn trivial ho (by simp) (by simp) hst) h.few)⟩
 | @add Wg Qs O K g wst hrun hlen hgo hnx ih =>
   intro blk W base D gs w sl t h;refine drive (fun W base D gs w sl t h=>.inl ?_) sl h;obtain⟨ho,_,_,hst⟩:=h.mode.open_inv trivial;have hV:Vc (base+Qs.length) D<=Qs.length:=by have:=Vc_le (D:=D) (base+Qs.length) base (by omega) h.old;omega
   simp only[Tag.pend,ya4] at hst;obtain⟨g',e1⟩:=hgo w h.rely0 _ hV hst;refine⟨_,_,runT_crowd_go (P:=P) (sl:=sl) (i:=0) h.main0 (by simpa using e1),ih w g' _ _ _ h.rely0 hV hst e1 sl (h.book0 (hnx w g' _ _ _ h.rely0 hV hst e1).run (by simp) (by simp) (aside_setCell w (stA Wg) _) ⟨_,_,hst.setSt _⟩ bkrw rfl (.opn trivial ho (by simp) (by simp) ?_) (by simp[Tag.pend];omega))⟩;have:=hst.setSt ((((Vc (base+Qs.length) D:Nat):Int)+1) * KK);simpa[Tag.pend] using this
 | @en Wg Qs O K g wst hrun hgo hnx ih =>
   intro blk W base D gs w sl t h;refine drive (fun W base D gs w sl t h=>.inl ?_) sl h;obtain⟨g',e1⟩:=hgo w h.rely0;obtain⟨ho,_,_,hst⟩:=h.mode.open_inv trivial;refine⟨_,_,runT_crowd_go (P:=P) (sl:=sl) (i:=0) h.main0 (by simpa using e1),ih w g' w _ h.rely0 e1 sl (h.book0 (hnx w g' w _ h.rely0 e1).run (by simp) (by simp) (.refl Wg w) ⟨_,_,hst⟩ bke rfl (.opn trivial ho (by simp) (by simp) hst) h.few)⟩
 | @go Wg Qs O K g wst Q Bs R hrun hlen hB hR hBR hgo hc hnx ih =>
   intro blk W base D gs w sl t h;refine drive (fun W base D gs w sl t h=>.inl ?_) sl h;obtain⟨g',child,e1⟩:=hgo w h.rely0;obtain⟨T,hT⟩:=hc w g' child w _ h.rely0 e1;have hr:=runT_crowd_spawn (P:=P) (sl:=sl) (i:=0) h.main0 (by simpa using e1);refine⟨_,_,hr,?_⟩;have hI:=h.fork (hnx w g' child w _ h.rely0 e1).run hlen hB hR hBR hT (x:={ g:=0,fn:=g.frame.fn,pos:=g.frame.place,act:=.go gs.size }) (y:={ g:=gs.size,fn:=child.frame.fn,pos:=g.frame.place,act:=.start }) ⟨rfl,by rw[h.size]⟩ ⟨h.size,rfl⟩;have e2:t++((MemOp.ofEvents 0 g.frame.fn g.frame.place #[]).push { g:=0,fn:=g.frame.fn,pos:=g.frame.place,act:=.go gs.size } |>.push { g:=gs.size,fn:=child.frame.fn,pos:=g.frame.place,act:=.start })=t++#[{ g:=0,fn:=g.frame.fn,pos:=g.frame.place,act:=.go gs.size },{ g:=gs.size,fn:=child.frame.fn,pos:=g.frame.place,act:=.start }]:=by
    rw[ofEvents_eq];simp
   rw[e2];exact ih w g' child w _ h.rely0 e1 sl hI
 | @wd Wg Qs O K g wst hrun hgo hnx ih =>
   intro blk W base D gs w sl t h;refine drive (fun W base D gs w sl t h=>.inl ?_) sl h;obtain⟨g',e1⟩:=hgo w h.rely0;obtain⟨ho,_,_,hst⟩:=h.mode.open_inv trivial;have hV:Vc (base+Qs.length) D<=Qs.length:=by have:=Vc_le (D:=D) (base+Qs.length) base (by omega) h.old;omega
   refine⟨_,_,runT_crowd_go (P:=P) (sl:=sl) (i:=0) h.main0 (by simpa using e1),ih w g' w _ h.rely0 e1 sl (h.book0 (hnx w g' w _ h.rely0 e1).run (by simp) (by simp) (.refl Wg w) ⟨_,_,hst⟩ bkd rfl (.opn trivial ho (fun b e=>by cases e;exact hV) (by simp) hst) h.few)⟩
 | @ld Wg b Qs O K g wst hrun hgo h0 h1 ih0 ih1 =>
   intro blk W base D gs w sl t h;refine drive (fun W base D gs w sl t h=>.inl ?_) sl h;obtain⟨ho,hb,_,hst⟩:=h.mode.open_inv trivial;have hV:=hb b rfl;simp only[Tag.pend,ya4] at hst;obtain⟨g',e1⟩:=hgo w h.rely0 _ hV hst;rcases ybh (Vc (base+Qs.length) D) with hz|hz
   ·rw[hz] at hst;refine⟨_,_,runT_crowd_go (P:=P) (sl:=sl) (i:=0) h.main0 (by simpa using e1),ih0 w g' w _ h.rely0 hst e1 sl (h.book0 (h0 w g' w _ h.rely0 hst e1).run (by simp) (by simp) (.refl Wg w) ⟨_,_,hst⟩ bkr rfl (.fin trivial (qga ho hz) (by simpa using hst)) (by have:=h.few;simpa[Tag.pend] using this))⟩
   ·refine⟨_,_,runT_crowd_go (P:=P) (sl:=sl) (i:=0) h.main0 (by simpa using e1),ih1 w g' w _ _ h.rely0 hz hV hst e1 sl (h.book0 (h1 w g' w _ _ h.rely0 hz hV hst e1).run (by simp) (by simp) (.refl Wg w) ⟨_,_,hst⟩ bkr rfl (.opn trivial ho (by simp) (fun vs e=>by cases e;exact⟨yb _,hz⟩) (by simpa[Tag.pend] using hst)) (by have:=h.few;simpa[Tag.pend] using this))⟩
 | @cas Wg vs Qs O K g wst hrun hhit hmiss h3 ha ih3 iha =>
   intro blk W base D gs w sl t h;refine drive (fun W base D gs w sl t h=>.inl ?_) sl h;obtain⟨ho,_,hw2,hst⟩:=h.mode.open_inv trivial;obtain⟨hV,hv1⟩:=hw2 vs rfl;simp only[Tag.pend,ya4] at hst;have hfew:=h.few;simp only[Tag.pend,ya4] at hfew;rcases ya3 (Vc (base+Qs.length) D) vs with hlt|hge
   ·obtain⟨g',e1⟩:=hmiss w h.rely0 _ hlt hst;refine⟨_,_,runT_crowd_go (P:=P) (sl:=sl) (i:=0) h.main0 (by simpa using e1),iha w g' w _ _ h.rely0 hlt hst e1 sl (h.book0 (ha w g' w _ _ h.rely0 hlt hst e1).run (by simp) (by simp) (.refl Wg w) ⟨_,_,hst⟩ bkr rfl (.opn trivial ho (fun b e=>by cases e;exact yb _) (by simp) (by simpa[Tag.pend] using hst)) (by simpa[Tag.pend] using hfew))⟩
   ·have e:Vc (base+Qs.length) D=vs:=by omega
    rw[e] at hst;obtain⟨g',e1⟩:=hhit w h.rely0 hst;refine⟨_,_,runT_crowd_go (P:=P) (sl:=sl) (i:=0) h.main0 (by simpa using e1),ih3 w g' _ _ h.rely0 hst e1 sl (h.book0 (h3 w g' _ _ h.rely0 hst e1).run (by simp) (by simp) (aside_setCell w (stA Wg) _) ⟨_,_,hst.setSt _⟩ bkrw rfl (.reg ho (by omega) (by rw[e];exact hst.setSt _)) (by simpa[Tag.pend] using hfew))⟩
 | @sem Wg Qs O K g wst hrun hoff hblk hgo hnx ih =>
   intro blk W base D gs w sl t h;refine drive (fun W base D gs w sl t h=>?_) sl h;have blocked:∀st,WgAt ty Wg w st 0->MD ty Wg (base+Qs.length) D w .w3 true->∃gs',runT P (crowd gs w sl) 0=(.next (crowd gs' w sl),#[])/\Inv P ty Wg Qs .w3 true O K g wst W base D gs' w t:=by
    intro st hst hm;have e1:=hblk w h.rely0 st hst;have hr:=runT_crowd_go (P:=P) (sl:=sl) (i:=0) h.main0 (by simpa using e1);have e2:MemOp.ofEvents 0 g.frame.fn g.frame.place #[]=#[]:=by rw[ofEvents_eq];simp
    rw[e2] at hr;refine⟨_,hr,⟨?_,h.run,fun _=>hoff,h.rely0,by simp[h.size],fun k hk=>?_,h.rely,h.old,h.qs,h.nofree,h.wg,h.sets,h.tl,h.deaf0,h.deafW,h.rel,h.q,hm,h.few⟩⟩
    ·rw[get_map_set_same _ _ _ (by rw[h.size];omega)];rfl
    ·obtain⟨y,hy,hsy⟩:=h.wk k hk;refine⟨y,?_,hsy⟩;rw[get_map_set _ _ _ _ (by omega),hy,yp];unfold woken;split
     ·rw[again_running w hsy.status.1]
     ·rfl
   have hm:=h.mode;cases hm with
   |opn h1=>exact h1.elim
   |fin h1=>exact h1.elim
   |reg h1 h2 h3=>exact .inr (.inr (blocked _ h3 (.reg h1 h2 h3)))
   |last L h1 h2 h3 h4=>exact .inr (.inr (blocked _ h4 (.last L h1 h2 h3 h4)))
   | sema hq hst =>
     obtain⟨g',e1⟩:=hgo w h.rely0 hst;exact .inl ⟨_,_,runT_crowd_go (P:=P) (sl:=sl) (i:=0) h.main0 (by simpa using e1),ih w g' _ _ h.rely0 hst e1 sl (h.book0 (hnx w g' _ _ h.rely0 hst e1).run (by simp) (by simp) (aside_setCell w (smA Wg) _) ⟨_,_,hst.setSm _⟩ bks (by simp[deafBehind,semEvents,Tag.deaf]) (.fin trivial hq (by simpa using hst.setSm 0)) h.few)⟩
 | @l4 Wg Qs O K g wst hrun hgo hnx ih =>
   intro blk W base D gs w sl t h;refine drive (fun W base D gs w sl t h=>.inl ?_) sl h;obtain⟨hq,hst⟩:=h.mode.fin_inv trivial;obtain⟨g',e1⟩:=hgo w h.rely0 hst;exact⟨_,_,runT_crowd_go (P:=P) (sl:=sl) (i:=0) h.main0 (by simpa using e1),ih w g' _ _ h.rely0 hst e1 sl (h.book0 (hnx w g' _ _ h.rely0 hst e1).run (by simp) (by simp) (.refl Wg w) ⟨_,_,hst⟩ bkr rfl (.fin trivial hq hst) h.few)⟩
 | @ke Wg Qs O K g wst hrun hgo hnx ih =>
   intro blk W base D gs w sl t h;refine drive (fun W base D gs w sl t h=>.inl ?_) sl h;obtain⟨hq,hst⟩:=h.mode.fin_inv trivial;obtain⟨g',e1⟩:=hgo w h.rely0;exact⟨_,_,runT_crowd_go (P:=P) (sl:=sl) (i:=0) h.main0 (by simpa using e1),ih w g' _ _ h.rely0 e1 sl (h.book0 (hnx w g' _ _ h.rely0 e1).run (by simp) (by simp) (.refl Wg w) ⟨_,_,hst⟩ bke rfl (.fin trivial hq hst) h.few)⟩
 | @aq Wg Qs O K g wst hrun hgo hnx ih =>
   intro blk W base D gs w sl t h;refine drive (fun W base D gs w sl t h=>.inl ?_) sl h;obtain⟨hq,hst⟩:=h.mode.fin_inv trivial;obtain⟨g',e1⟩:=hgo w h.rely0;have hQ:∀(i:Nat) (Q:Fact),Qs[i]?=some Q->Q ((D (base+i)).own) w:=fun i Q hi=>by
    have hlt:i<Qs.length:=(ym.1 hi).1;have:=h.qs i hlt;rw[hi] at this;injection this with this;rw[this];exact h.q _ (by omega) (by omega) (by rw[hq _ (by omega)];omega) w (h.rely _ (by omega) (by omega))
   have hD:∀i,i<Qs.length->∀b,(D (base+i)).own b->¬O b/\¬K b/\b<w.heap.size:=fun i hi b hb=>
    ⟨fun ho=>(h.sets.o0 _ (by omega) b ho).1 hb,fun hk=>h.sets.k0 _ (by omega) b hk hb,h.sets.lt _ (by omega) b (.inl hb)⟩
   have hDD:∀i k,i<Qs.length->k<Qs.length->i≠k->∀b,(D (base+i)).own b->¬(D (base+k)).own b:=fun i k hi hk hne b hb=>h.sets.oo _ _ (by omega) (by omega) (by omega) b hb;exact⟨_,_,runT_crowd_go (P:=P) (sl:=sl) (i:=0) h.main0 (by simpa using e1),ih w g' w _ (fun i=>(D (base+i)).own) h.rely0 hQ hD hDD e1 sl (h.acquire (hnx w g' w _ (fun i=>(D (base+i)).own) h.rely0 hQ hD hDD e1).run)⟩
theorem qk5{O K:Nat->Prop}{a:Goroutine}{w:World}(h:Main P ty Post 0 [] .free O K a w)(hO:∀b,O b->b<w.heap.size)(hK:∀b,K b->b<w.heap.size)(hOK:∀b,O b->¬K b):Tot P Post (solo a w) #[]:=by
 have none_:∀(i:Nat) (x:Touch),touchAt (#[]:Trace) i=some x->False:=fun i x hx=>by simp[touchAt,Trace.act?] at hx
 have e0:∀k,Deaf (#[]:Trace) k=0:=fun k=>rfl;refine qog h (blk:=false) (W:=fun _=>False) (base:=0) (D:=fun _=>⟨1,0,fun _=>False,fun _=>False,fun _ _=>True,w,.leaf⟩) (gs:=#[a]) (w:=w) none (t:=#[]) ?_;refine⟨rfl,h.run,by simp,.refl _ _ _ _,rfl,fun i hi=>by simp at hi,fun i _ hi=>by simp at hi,fun i hi=>by omega,fun i hi=>by simp at hi,fun _=>rfl,fun e=>absurd rfl e,?_,?_,rfl,fun i hi=>by simp at hi,fun i _ hi=>by simp at hi,fun i _ hi=>by simp at hi,.free fun i hi=>by simp at hi,by simp[Tag.pend]⟩
 ·exact⟨fun b hb=>hb.elim (hO b) fun x=>x.elim (hK b) False.elim,fun i hi=>by simp at hi,hOK,fun b hb=>hb.elim,fun i hi=>by simp at hi,fun i hi=>by simp at hi,fun i hi=>by simp at hi,fun i k hi=>by simp at hi,fun i k hi=>by simp at hi⟩
 ·exact⟨fun said=>Go.ConcN.noRace_nil said,fun op hop=>by simp at hop,fun l _ i x hx _=>(none_ i x hx).elim,fun l _ i x hx _ _=>(none_ i x hx).elim,fun i hi=>by simp at hi,fun i hi=>by simp at hi,fun i x hx _ _=>(none_ i x hx).elim,fun k _ hk=>by simp at hk,fun i x hx _=>(none_ i x hx).elim,fun i g hg=>by simp[Trace.g?] at hg,fun k _=>e0 k,fun op hop=>by simp at hop⟩
end
end
end Go.Cr
