import Derived.Test.YtoklolfaemhfnaaGreatDoorZak
import Derived.Test.YtoklolfaemhfnaaGreatDoorZbp
import Derived.Test.YtoklolfaemhfnaaGreatDoorZbt
set_option maxRecDepth 100000
set_option maxHeartbeats 8000000
open Go.Proofs.Tryz (prog)
namespace Go.Cr
section
open Go Go.Conc Go.RowKit Go.Proofs
open Go.Pm (Rely Guar Ev grow Perm Fam Loose Among Sim Ran Sup Ext)
structure Gh (π:Perm) (w wa:World) (O:Nat->Prop):Prop where
 loose:Loose fam π w wa
 shut:Go.Pm.Shut fam w
 tab:Tabs w
 taba:Tabs wa
 among:Among fam π w.heap.size O
def Sides(L:List (Nat × Obj))(O:Nat->Prop)(π:Perm)(n:Nat)(wa:World):Prop:=∀x∈L,O x.1/\wa.heap[x.1]?=some x.2/\∀r,7<=r->r<n->π.f r≠x.1
structure Own (O K:Nat->Prop) (w:World):Prop where
 lo:∀b,O b->b<w.heap.size
 lk:∀b,K b->b<w.heap.size
 ok:∀b,O b->¬K b
section
variable {K:Nat->Prop}{A:World->Prop}{X:Event->Prop}{Stop:(Nat->Prop)->Goroutine->World->Prop}{O:Nat->Prop}{g:Goroutine}{π:Perm}{w wa waB:World}{L:List (Nat × Obj)}
theorem Gh.rely(h:Gh π w wa O)(hK:∀b,b<2->K b)(hr:Rely O K A wa waB):Gh π w waB O:=⟨h.loose.rely h.among hr,h.shut,h.tab,leafLaw.loc wa waB (fun b hb=>hr.own b (.inr (hK b hb))) h.taba,h.among⟩
theorem Gh.cell(h:Gh π w wa O){r o:Nat}{v:Value}(h10:7<=r)(hc:w.cell? (aT r o)=some v):wa.cell? ⟨π.f r,o,none⟩=some (v.pm π)/\O (π.f r):=
 ⟨Sim.cell (F:=fam) h.loose.sim (a:=(aT r o)) h10 hc,h.among r h10 (yI w ⟨r,o,none⟩ hc)⟩
theorem Sides.rely(h:Sides L O π w.heap.size wa)(hr:Rely O K A wa waB):Sides L O π w.heap.size waB:=fun x hx=>⟨(h x hx).1,(hr.own x.1 (.inl (h x hx).1)).trans (h x hx).2.1,(h x hx).2.2⟩
theorem qff(h:Go.Pm.Way prog true K A X Stop O g w)(ho:Own O K w):Go.Pm.Way prog true K A X (fun O g w=>Stop O g w/\Own O K w) O g w:=by
 induction h with
 |stop h=>exact .stop fun wB h₁=>⟨h wB h₁,fun b hb=>yg (ho.lo b hb) h₁.size,fun b hb=>yg (ho.lk b hb) h₁.size,ho.ok⟩
 | @step O g w hrun hgo _ ih =>
   refine .step hrun hgo fun wB g' w' es h₁ he=>?_;obtain⟨g'',w'',es',e1,e2⟩:=hgo wB h₁;rw[e1] at he;obtain⟨rfl,rfl,rfl⟩:=qj he;refine ih wB _ _ _ h₁ e1 ⟨fun b hb=>?_,fun b hb=>?_,fun b hb hk=>?_⟩
   ·rcases hb with hb|hb
    ·exact yg (ho.lo b hb) (yr h₁.size e2.size)
    ·exact hb.2
   ·exact yg (ho.lk b hb) (yr h₁.size e2.size)
   ·rcases hb with hb|hb
    ·exact ho.ok b hb hk
    ·have:=ho.lk b hk;have:=h₁.size;omega
theorem qb2(hK:∀b,b<2->K b)(h:Gh π w wa O)(hL:Sides L O π w.heap.size wa){f:FuncId}(hF:fam f=true)(hlf:fam.leaf f=false){args args':Array Value}(ha:∀v∈args,Sup fam w.heap.size v)(hargs:args.map (Value.pm π)=args'){R:Ending->World->Prop}(hc:∀τ,Ext w τ->Calls prog f args (w.tp τ) R)(hR:∀e w',R e w'->∃v,e=.returned v){c:Frame}{rest:List Frame}
 (hk:∀v w' π' wa' O',R (.returned v) w'->Gh π' w' wa' O'->Sides L O' π' w'.heap.size wa'->w.heap.size<=w'.heap.size->(∀r,r<w.heap.size->π'.f r=π.f r)->Sup fam w'.heap.size v->Go.Pm.Way prog true K A X Stop O' (G (c.finish (v.pm π')) rest) wa') :
 Go.Pm.Way prog true K A X Stop O (G (Frame.enter prog f args' .normal) (c::rest)) wa:=by
 rw[<-hargs];refine Go.Pm.way_callZ progOk leafLaw hK (Z:=fun O π n wa=>Sides L O π n wa) (fun O π n wa waB hz hr x hx=>⟨(hz x hx).1,(hr.own x.1 (.inl (hz x hx).1)).trans (hz x hx).2.1,(hz x hx).2.2⟩) (fun O π π' w wa w' wa' hz _ hsim hran x hx=>?_) hL h.loose h.shut h.tab h.taba h.among hF hlf ha hc hR fun v w' π' wa' O' h1 h2 h3 h4 h5 h6 h7 h8 h9 hz=>hk v w' π' wa' O' h1 ⟨h2,h3,h4,h5,h6⟩ hz h7 h8 h9;obtain⟨z1,z2,z3⟩:=hz x hx;have hlt:x.1<wa.heap.size:=(yk.1 z2).1;refine⟨.inl z1,(hran.frame x.1 hlt fun r h1 h2=>z3 r h1 h2).trans z2,fun r h1 h2 e=>?_⟩;by_cases hc:r<w.heap.size
 ·exact z3 r h1 hc (by rw[<-hran.same r hc];exact e)
 ·have:=hran.fresh r (by omega) h2;omega
end
end
end Go.Cr
namespace Go.Proofs.YtoklolfaemhfnaaGreatDoor
section
open Go.RowKit
open Go.ChangeMaps (setBlock)
structure NetA (w:World) (Fn:Nat->Prop) (gb:Nat) (pv:Value) (lim:Nat) (pl:List Par) (nv:Value):Prop where
 blk:BlkAt w gb 97 #[pv,J lim,nv]
 row:Row w Fn 111 2 nv pl.length (parCells pl)
variable {w w':World}{Fn:Nat->Prop}{gb:Nat}{pv:Value}{lim:Nat}{pl:List Par}{nv:Value}
theorem NetA.below(p:NetA w Fn gb pv lim pl nv)(hb:Below w.heap.size w w'):NetA w' Fn gb pv lim pl nv:=⟨p.blk.below hb p.blk.lt,p.row.kept fun g hg=>hb.block g (p.row.lt hg)⟩
theorem NetA.wide(p:NetA w Fn gb pv lim pl nv){F':Nat->Prop}(hF:∀x,Fn x->F' x):NetA w F' gb pv lim pl nv:=⟨p.blk,p.row.row,fun g hg=>hF g (p.row.foot g hg)⟩
theorem NetA.gbrow(p:NetA w Fn gb pv lim pl nv):some gb≠nv.ownBlock:=fun e=>p.row.ne e.symm p.blk (by decide) rfl
theorem qj5(p:NetA w Fn gb pv lim pl nv):Calls prog 72 #[pT gb 1] w fun e w'=>e=.returned (J pl.length)/\w'=w:=by
 have c2:=p.blk.cell 2 _ rfl;obtain⟨ao,cap,hv⟩:=qp p.row.row;simp only[yf,yd,ye,hv] at c2;clear p;go_enter Tryz.func72,Tryz.ntmps72
 go_wp2_with fail
 go_ret;exact⟨rfl,rfl⟩
theorem qdd(p:NetA w Fn gb pv lim pl nv)(k:Nat)(hk:k<pl.length):Calls prog 113 #[pT gb 1,J k] w fun e w'=>e=.returned (.bool true)/\w'=w:=by
 have c2:=p.blk.cell 2 _ rfl;obtain⟨ao,cap,hv⟩:=qp p.row.row;simp only[yf,yd,ye,hv] at c2;have hk0:(0:Int)<=(k:Int):=by omega
 have hk1:(k:Int)<(pl.length:Int):=by omega
 clear p;go_enter Tryz.func113,Tryz.ntmps113
 go_wp2_with fail
 go_ret;exact⟨rfl,rfl⟩
def sentTo(lim:Nat)(pl:List Par)(c:Par):List Par:=if pl.length<lim then pl++[c] else pl
theorem qgg(p:NetA w Fn gb pv lim pl nv)(c:Par)(hl:pl.length<=1000000) :
 Calls prog 104 #[pT gb 1,.agg #[J c.1,.string c.2]] w fun e w'=>e=.returned (.tuple #[])/\Chg (fun x=>Fn x\/x=gb) w w'/\∃nv',NetA w' (Plus Fn w) gb pv lim (sentTo lim pl c) nv':=by
 unfold sentTo;obtain⟨c1,c2⟩:=c;simp only;obtain⟨i0,hi0,hz0,hz1,hz2⟩:=info_parts infoPar;have HP:Hid (NetA w Fn gb pv lim pl nv):=p;obtain⟨ao,vc,hv⟩:=qp p.row.row;have hB1:Below w.heap.size w (w.alloc (.cells #[J c1,.string c2] 111)):=(yi _ _).alloc (yb _) _;have hX:=BlkAt.new w w.heap.size rfl 111 #[J c1,.string c2];have HS:Hid (∀w',Below (w.heap.size+1) (w.alloc (.cells #[J c1,.string c2] 111)) w'->w'.cell? (aT gb 1)=some (J lim)/\w'.cell? (aT gb 2)=some (.slice ao pl.length vc)/\w'.cell? (aT w.heap.size 0)=some (J c1)/\w'.cell? (aT w.heap.size 1)=some (.string c2)):=fun w' hw=>by
  have hb:Below w.heap.size w w':=hB1.trans (hw.mono (by omega));have c2':=(p.blk.below hb p.blk.lt).cell 2 _ rfl;simp only[yf,yd,ye,hv] at c2';exact⟨(p.blk.below hb p.blk.lt).cell 1 _ rfl,c2',(hX.below hw (by omega)).cell 0 _ rfl,(hX.below hw (by omega)).cell 1 _ rfl⟩
 have HB1:Hid (Below w.heap.size w (w.alloc (.cells #[J c1,.string c2] 111))):=hB1;have hs1:Hid ((w.alloc (.cells #[J c1,.string c2] 111)).heap.size=w.heap.size+1):=by simp[Hid]
 clear p hB1 hX;obtain⟨e1,e2,e3,e4⟩:=HS.out _ (yi _ _);by_cases hlt:pl.length<lim
 ·have hlt1:(pl.length:Int)<(lim:Int):=by omega
  rw[if_pos hlt];go_enter Tryz.func104,Tryz.ntmps104
  go_wp2_with fail
  generalize w.alloc (.cells #[J c1,.string c2] 111)=w1 at HS HB1 hs1 e1 e2 e3 e4 ⊢;go_quiet (fail)
  go_wp2_with fail
  have HB2:Hid (Below (w.heap.size+1) w1 (w1.drewN nq)):=below_drewN (yi _ _) nq;have hs2:Hid ((w1.drewN nq).heap.size=w.heap.size+1):=by have:=hs1.out;simp[Hid,this]
  generalize w1.drewN nq=w2 at HB2 hs2 ⊢;have P2:Hid (NetA w2 Fn gb pv lim pl nv/\Below w.heap.size w w2):=⟨HP.out.below (HB1.out.trans (HB2.out.mono (by omega))),HB1.out.trans (HB2.out.mono (by omega))⟩;have HSS:Hid (∀w',Below w2.heap.size w2 w'->w'.cell? (aT gb 2)=some (.slice ao pl.length vc)/\w'.cell? (aT w.heap.size 0)=some (J c1)/\w'.cell? (aT w.heap.size 1)=some (.string c2)):=fun w' hw=>(HS.out w' (HB2.out.trans (hw.mono (by rw[hs2.out];omega)))).2;have hnl:Hid (∀g,nv.ownBlock=some g->g<w.heap.size):=fun g hg=>HP.out.row.lt hg;subst hv;clear HS HB1 hs1 e1 e2 e3 e4;refine Ends.begin (fun w'=>w'.cell? (aT gb 2)=some (.slice ao pl.length vc)/\w'.cell? (aT w.heap.size 0)=some (J c1)/\w'.cell? (aT w.heap.size 1)=some (.string c2)) 10 rfl (HSS.out _ (yi _ _).drew) (fun hHeld=>?_);refine tk 0 ?_;refine tk 1 ?_;refine tk 2 ?_;refine tk 3 ?_;refine tk 4 ?_;refine tk 5 ?_;refine te 6 fun K hK=>?_;go_simp;have hBE:Hid (Below w2.heap.size w2 (w2.alloc (.cells #[J c1,.string c2] 111)).drew):=((yi _ _).alloc (yb _) _).drew;refine hK.out _ _ (fun _=>HSS.out _ hBE.out) (fun hHeld=>?_);clear hK K;try simp only[pU]
  have HE:Hid (BlkAt (w2.alloc (.cells #[J c1,.string c2] 111)).drew w2.heap.size 111 #[J c1,.string c2]):=(BlkAt.new w2 w2.heap.size rfl 111 _).drew;have hsE:Hid ((w2.alloc (.cells #[J c1,.string c2] 111)).drew.heap.size=w2.heap.size+1):=by simp[Hid]
  generalize (w2.alloc (.cells #[J c1,.string c2] 111)).drew=w4 at hBE HE hsE hHeld ⊢;refine te 7 fun K hK=>?_;refine step_append_lies w4 rfl (.tmp 18) (.tmp 20) 92 rfl 0 111 i0 _ 2 24 Tryz.underlying92 hi0 hz0 hz1 hz2 rfl (by decide) (.slice ao pl.length vc) pl.length (parCells pl) rfl (qo P2.out.1.row.row hBE.out) (aT w2.heap.size 0) 1 1 [J c1,.string c2] rfl rfl (yaB HE.out) (by intro u hu;simp only[yF,yU,or_false] at hu;rcases hu with rfl|rfl <;> rfl) (by omega) (by simp[maxLen];omega) (by omega) (yaA _) (w2.heap.size+1) hsE.out ?_;intro g cap w5 hown hgr hor hlt5;have nb:=P2.out.1.gbrow;have hb4:gb<w4.heap.size:=yg P2.out.1.blk.lt hBE.out.size;have hSf:Hid (w5.cell? (aT gb 2)=some (.slice ao pl.length vc)/\w5.cell? (aT w.heap.size 0)=some (J c1)/\w5.cell? (aT w.heap.size 1)=some (.string c2)):=by
   have h4:=HSS.out _ hBE.out;have hx4:w.heap.size<w4.heap.size:=by have:=hBE.out.size;rw[hs2.out] at this;omega
   have nx:some w.heap.size≠(Value.slice ao pl.length vc).ownBlock:=fun e=>by have:=hnl.out _ e.symm;omega
   exact⟨(hgr.cell_far ⟨gb,2,none⟩ hb4 nb).trans h4.1,(hgr.cell_far ⟨w.heap.size,0,none⟩ hx4 nx).trans h4.2.1,(hgr.cell_far ⟨w.heap.size,1,none⟩ hx4 nx).trans h4.2.2⟩
  have hbk5:BlkAt w5 gb 97 #[pv,J lim,.slice ao pl.length vc]:=(hgr.block gb hb4 nb).trans (P2.out.1.blk.below hBE.out P2.out.1.blk.lt);have hgne:g≠gb:=by
   rcases hor with hor|hor
   ·exact fun e=>nb (by rw[<-e];exact hor.symm)
   ·have:=P2.out.1.blk.lt;omega
  have HFIN:Hid (Chg (fun x=>Fn x\/x=gb) w (w5.setCell ⟨gb,2,none⟩ (sT g (pl.length+1) cap))/\NetA (w5.setCell ⟨gb,2,none⟩ (sT g (pl.length+1) cap)) (Plus Fn w) gb pv lim (pl++[(c1,c2)]) (sT g (pl.length+1) cap)):=by
   have hb2:=P2.out.2;have hb42:Below w.heap.size w w4:=hb2.trans (hBE.out.mono hb2.size);refine⟨⟨hgr.os.trans hb42.os,hgr.tape.trans hb42.tape,hgr.output.trans hb42.output,by simpa using yr hb42.size hgr.size,fun x hx hF=>?_⟩,hbk5.set 2 _,⟨?_,fun g' hg'=>?_⟩⟩
   ·rw[yT _ _ _ _ (fun e=>hF (.inr e))];exact(hgr.block x (yg hx hb42.size) fun e=>hF (.inl (HP.out.row.foot x e.symm))).trans (hb42.block x hx)
   ·rw[yC,qda];refine qd hown fun g' hg'=>?_;have:g'=g:=by simpa[Value.ownBlock] using hg'.symm
    subst this;exact yT _ _ _ _ hgne
   ·have:g'=g:=by simpa[Value.ownBlock] using hg'.symm
    subst this;rcases hor with hor|hor
    ·exact .inl (HP.out.row.foot _ hor)
    ·exact .inr (by rw[hor,hs2.out];omega)
  have hfz:w5.frozen? (aT gb 2)=false:=hbk5.frozen 2;clear hown hgr hor hlt5 hHeld HE hsE hBE HSS nb hb4 hbk5 hgne P2 HP hnl;refine hK.out _ _ (fun _=>hSf.out) (fun hHeld=>?_);clear hK K;try simp only[pU]
  have hHeld:=hHeld (by decide);refine te 8 fun K hK=>?_;go_simp;refine hK.out _ _ (fun _=>hSf.out) (fun hHeld=>?_);clear hK K;try simp only[pU]
  refine te 9 fun K hK=>?_;go_simp;refine hK.out _ _ (fun _=>hSf.out) (fun hHeld=>?_);clear hK K;try simp only[pU]
  have hHeld:=hHeld (by decide);refine te 10 fun K hK=>?_;go_simp;refine hK.out _ _ (fun h=>absurd rfl h) (fun _=>?_);clear hK K;try simp only[pU]
  refine Ends.done (by kernel_rfl) ?_ _;go_wp2_with fail
  go_end0
  exact⟨rfl,HFIN.out.1,_,HFIN.out.2⟩
 ·have hlt1:¬(pl.length:Int)<(lim:Int):=by omega
  rw[if_neg hlt];go_enter Tryz.func104,Tryz.ntmps104
  go_wp2_with fail
  generalize w.alloc (.cells #[J c1,.string c2] 111)=w1 at HS HB1 hs1 e1 e2 e3 e4 ⊢;go_quiet (fail)
  go_wp2_with fail
  go_end0
  exact⟨rfl,Chg.of_below (below_drewN HB1.out _),nv,(HP.out.below (below_drewN HB1.out _)).wide Plus.sub⟩
end
section
open Go.RowKit
open Go.ChangeMaps (setBlock)
variable {w w':World}{Fn:Nat->Prop}{gb:Nat}{pv:Value}{lim:Nat}{pl:List Par}{nv:Value}
theorem qfg:∀{pl:List Par}{i:Nat}{x:Par},pl[i]?=some x->(parCells pl)[i * 2]?=some (J x.1)/\(parCells pl)[i * 2+1]?=some (.string x.2)
 |[],i,x,h=>by cases h
 | y :: ks, 0, x, h => by
   simp only[yak,yA] at h;subst h;exact⟨rfl,rfl⟩
 | y :: ks, i + 1, x, h => by
   have:=qfg (pl:=ks) (i:=i) (x:=x) (by simpa using h);have e:parCells (y::ks)=[J y.1,.string y.2]++parCells ks:=rfl;rw[e,show (i+1) * 2=i * 2+1+1 by omega];exact this
theorem qdp{F:Nat->Prop}{v:Value}(r:Row w F 111 2 v pl.length (parCells pl)){k:Nat}{x:Par}(hk:pl[k]?=some x):∃g cap,v=sT g pl.length cap/\F g/\g<w.heap.size/\w.cell? ⟨g,k * 2,none⟩=some (J x.1)/\w.cell? ⟨g,k * 2+1,none⟩=some (.string x.2)/\∃cur,w.heap[g]?=some (.cells cur 111 (0,0)):=by
 have hkl:k<pl.length:=(ym.1 hk).1;rcases r.row.2 with ⟨-,h0⟩|⟨g,cap,cur,h0, -,hcur, -⟩
 ·omega
 ·have hob:v.ownBlock=some g:=by rw[h0];rfl
  obtain⟨a,c⟩:=qfg hk;have c0:=r.row.cells hob _ _ a;have c1:=r.row.cells hob _ _ c;rw[add0] at c0 c1;exact⟨g,cap,h0,r.foot g hob,r.lt hob,c0,c1,cur,hcur⟩
theorem qhn(p:NetA w Fn gb pv lim pl nv):Calls prog 59 #[pT gb 1] w fun e w'=>e=.returned nv/\w'=w.setCell ⟨gb,2,none⟩ (sN):=by
 have c2:=p.blk.cell 2 _ rfl;have f2:=p.blk.frozen 2;simp only[yf,yd,ye] at c2;clear p;go_enter Tryz.func59,Tryz.ntmps59
 go_wp2_with fail
 go_ret;exact⟨rfl,rfl⟩
theorem qj6(p:NetA w Fn gb pv lim pl nv)(k:Nat)(x:Par)(hk:pl[k]?=some x):Calls prog 135 #[pT gb 1,J k] w fun e w'=>e=.returned (.tuple #[.string x.2,J 0])/\w'=w:=by
 have hkl:k<pl.length:=(ym.1 hk).1;have HH:Hid (Calls prog 113 _ _ _):=qdd p k hkl;obtain⟨g,cap,hv, -, -,c0,c1, -⟩:=qdp p.row hk;have c2:=p.blk.cell 2 _ rfl;simp only[yf,yd,ye,hv] at c2;have hk0:(0:Int)<=(k:Int):=by omega
 have hk1:(k:Int)<(pl.length:Int):=by omega
 clear p hk;go_enter Tryz.func135,Tryz.ntmps135
 go_wp2_with fail
 refine HH.out.mono ?_;rintro e w2 ⟨rfl,rfl⟩;go_wp2_with fail
 go_ret2
 exact⟨rfl,rfl⟩
theorem qlt(p:NetA w Fn gb pv lim pl nv)(hl:pl.length<=1000000)(k:Nat)(x:Par)(hk:pl[k]?=some x):Calls prog 125 #[pT gb 1,J k] w fun e w'=>e=.returned (J 0)/\Chg (fun x=>Fn x\/x=gb) w w'/\∃nv',NetA w' (Plus Fn w) gb pv lim (sentTo lim pl x) nv':=by
 have hkl:k<pl.length:=(ym.1 hk).1;have HH:Hid (Calls prog 113 _ _ _):=qdd p k hkl;have HS:Hid (Calls prog 104 _ _ _):=qgg p x hl;obtain⟨g,cap,hv, -, -,c0,c1, -⟩:=qdp p.row hk;have c2:=p.blk.cell 2 _ rfl;simp only[yf,yd,ye,hv] at c2;have hk0:(0:Int)<=(k:Int):=by omega
 have hk1:(k:Int)<(pl.length:Int):=by omega
 clear p hk;go_enter Tryz.func125,Tryz.ntmps125
 go_wp2_with fail
 refine HH.out.mono ?_;rintro e w2 ⟨rfl,rfl⟩;go_wp2_with fail
 refine HS.out.mono ?_;rintro e w3 ⟨rfl,hres⟩;have HRES:Hid (Chg (fun x=>Fn x\/x=gb) w2 w3/\∃nv',NetA w3 (Plus Fn w2) gb pv lim (sentTo lim pl x) nv'):=hres;clear hres HS HH;go_wp2_with fail
 go_ret;exact⟨rfl,HRES.out.1,HRES.out.2⟩
theorem clear1(w:World)(g o c:Nat){cur:Array Value}(hg:w.heap[g]?=some (.cells cur 111 (0,0)))(ho:o+1<cur.size) :
 (Builtin.clear_ #[92] 0 #[.slice (some ⟨g,o,none⟩) 1 c]).run prog w=.ok (.tuple #[]) (w.setRow g (cur.toList.take o++[Value.int .i64 0,Value.string ⟨#[]⟩]++cur.toList.drop (o+2)).toArray):=by
 have hz:(zeroValue 111).run prog w=.ok (.agg #[J 0,.string ⟨#[]⟩]) w:=Tryz.zeroValue111 w;have hst:=run_storeCells_at prog g o 111 [J 0,.string ⟨#[]⟩] 0 cur w hg (by simp;omega) (by intro v hv;simp at hv;rcases hv with rfl|rfl <;> rfl);have e:(Builtin.zeroCells (Value.agg #[Value.int .i64 0,.string ⟨#[]⟩]).cells 1).toList=[J 0,.string ⟨#[]⟩]:=by kernel_rfl
 simp[Builtin.clear_,run_underlying Tryz.underlying92,hz,e];simp at hst;rw[hst];rfl
theorem ql(pl:List Par):(parCells pl).length=pl.length * 2:=by
 induction pl with
 |nil=>rfl
 | cons x pl ih =>
   have e:parCells (x::pl)=[J x.1,.string x.2]++parCells pl:=rfl;rw[e,yC,ih];simp;omega
theorem qba(a c:List Par):parCells (a++c)=parCells a++parCells c:=by simp[parCells]
theorem qis:∀u∈parCells pl,u.oneCell'=true:=by
 intro u hu;unfold parCells at hu;obtain⟨x, -,hx⟩:=yaL.1 hu;simp at hx;rcases hx with rfl|rfl <;> rfl
theorem qho(k:Nat):(parCells pl).take (k * 2)=parCells (pl.take k):=by
 by_cases hk:k<=pl.length
 ·have h1:=qba (pl.take k) (pl.drop k);rw[List.take_append_drop] at h1;rw[h1,List.take_left'];rw[ql,yam];omega
 ·rw[yX (by rw[ql];omega),yX (by omega)]
theorem qhp(k:Nat):(parCells pl).drop (k * 2)=parCells (pl.drop k):=by
 by_cases hk:k<=pl.length
 ·have h1:=qba (pl.take k) (pl.drop k);rw[List.take_append_drop] at h1;rw[h1,List.drop_left'];rw[ql,yam];omega
 ·rw[ybg (by rw[ql];omega),ybg (by omega)];rfl
theorem qfh{P:Program}{ops:Array Oper}{o:Oper}{a:Act}{w w':World}{K:Act->World->Prop}{Q:Exit->Act->World->Prop}{E:Prop}(hgd:o.guard=none)(s x:Operand)(t:TypeId)(ho:o.op=.call { callee:=.builtin .append,args:=#[s,x],argTypes:=#[t,t] })(v u r:Value)(hs:a.eval s=v)(hx:a.eval x=u)(hr:(Builtin.append_ #[t,t] o.type #[v,u]).run P w=.ok r w')(h:K (a.put o.dst r) w') :
 if Region.wanted o (yielded ops a.tmps)=true then Oper.wp P o a w K Q else E:=by
 have hw:Region.wanted o (yielded ops a.tmps)=true:=by simp[Region.wanted,hgd]
 rw[if_pos hw];unfold Oper.wp execOp;simp only[ho,resolve,invoke,builtin,Sem.run_bind,Sem.run_pure,Result.andThen_ok,yas,yN,yaK,hs,hx,hr];exact h
theorem qnn{g cap:Nat}(r:Row w Fn 111 2 (sT g pl.length cap) pl.length (parCells pl))(k:Nat)(hk:k<pl.length)(hl:pl.length<=1000000) :
 Calls prog 114 #[sT g pl.length cap,J k,J (k+1:Nat)] w fun e w'=>e=.returned (sT g (pl.length - 1) cap)/\w.grownBy w' (some g)/\Row w' Fn 111 2 (sT g (pl.length - 1) cap) (pl.eraseIdx k).length (parCells (pl.eraseIdx k)):=by
 obtain⟨i0,hi0,hz0,hz1,hz2⟩:=info_parts infoPar;obtain⟨cur,hle,hmx,hcur,hcs,htk⟩:∃cur:Array Value,pl.length<=cap/\cap<=maxLen/\w.heap[g]?=some (.cells cur 111 (0,0))/\cur.size=cap * 2/\cur.toList.take (pl.length * 2)=parCells pl:=by
  rcases r.row.2 with ⟨h0, -⟩|⟨g',cap',cur,h0, -,hc',hle,hmx,hcs,htk⟩
  ·cases h0
  ·injection h0 with h0 _ h2;injection h0 with h0;injection h0 with h0;subst h0 h2;exact⟨cur,hle,hmx,hc',hcs,htk⟩
 have hfoot:Fn g:=r.foot g rfl;obtain⟨cur1,hc1,hs1,ht1⟩:∃cur1:Array Value,cur1=(cur.toList.take (k * 2)++parCells (pl.drop (k+1))++cur.toList.drop (k * 2+(parCells (pl.drop (k+1))).length)).toArray/\cur1.size=cap * 2/\cur1.toList.take ((pl.length - 1) * 2)=parCells (pl.eraseIdx k):=by
  refine⟨_,rfl,?_,?_⟩
  ·have h1:=ql (pl.drop (k+1));have h2:cur.toList.length=cap * 2:=by rw[yab,hcs]
   simp only[yJ,yC,yam,ybd,h1,h2] at *;omega
  ·have h3:cur.toList.take (k * 2)=parCells (pl.take k):=by
    rw[<-qho,<-htk,List.take_take];congr 1;omega
   rw[h3,List.eraseIdx_eq_take_drop_succ,qba];rw[List.take_left'];rw[yC,ql,ql,yam,ybd];omega
 have HAPP:Hid (∀w' ty c',w'.heap[g]?=some (.cells cur 111 (0,0))->(∃w2,∃A:Addr,(if cap=k+1 then some (⟨g,0,none⟩:Addr) else some ⟨g,(k+1) * 2,none⟩)=some A/\(Builtin.append_ #[92,92] ty #[sT g k cap,.slice (some A) (pl.length - (k+1)) c']).run prog w'=.ok (sT g (pl.length - 1) cap) w2/\w'.grownBy w2 (some g)/\w2.heap[g]?=some (.cells cur1 111 (0,0)))):=fun w' ty c' hg'=>by
  obtain⟨A,hA,hsrc⟩:∃A:Addr,(if cap=k+1 then some (⟨g,0,none⟩:Addr) else some ⟨g,(k+1) * 2,none⟩)=some A/\∀j u,(parCells (pl.drop (k+1)))[j]?=some u->w'.cell? (A.add j)=some u:=by
   by_cases hcap:cap=k+1
   ·refine⟨_,if_pos hcap,fun j u hu=>?_⟩;have h0:pl.drop (k+1)=[]:=ybg (by omega);rw[h0] at hu;cases hu
   ·refine⟨_,if_neg hcap,fun j u hu=>?_⟩;have hj:=(ym.1 hu).1;rw[ql,ybd] at hj;rw[<-qhp,List.getElem?_drop,<-htk,List.getElem?_take,if_pos (by omega)] at hu;rw[Addr.add_lit,cell_of_row w' g _ cur 111 (0,0) hg'];rw[<-Array.getElem?_toList];exact hu
  have hrun:=run_append_room (P:=prog) w' 92 ty 111 i0 Tryz.underlying92 hi0 g k cap cur hg' A (pl.length - (k+1)) c' (parCells (pl.drop (k+1))) (by rw[ql,ybd,hz1]) hsrc qis (by omega) (by rw[ql,ybd,hz1,hcs];omega);rw[hz1,<-hc1,show k+(pl.length - (k+1))=pl.length - 1 by omega] at hrun;exact⟨_,A,hA,hrun,⟨rfl,rfl,rfl,by simp[World.setRow],fun x _ hne=>setRow_other _ _ _ _ (fun e=>hne (by rw[e]))⟩,setRow_heap w' g _ _ 111 _ hg'⟩
 have HCL:Hid (∀w',w'.heap[g]?=some (.cells cur1 111 (0,0))->∃w2,(Builtin.clear_ #[92] 0 #[.slice (some ⟨g,(pl.length - 1) * 2,none⟩) 1 (cap - (pl.length - 1))]).run prog w'=.ok (.tuple #[]) w2/\w'.grownBy w2 (some g)/\w2.ownsRow 0 111 2 (sT g (pl.length - 1) cap) (pl.eraseIdx k).length (parCells (pl.eraseIdx k))):=fun w' hg'=>by
  have hlen:(pl.eraseIdx k).length=pl.length - 1:=by rw[List.length_eraseIdx,if_pos hk]
  refine⟨_,clear1 w' g ((pl.length - 1) * 2) (cap - (pl.length - 1)) hg' (by omega),⟨rfl,rfl,rfl,by simp[World.setRow],fun x _ hne=>setRow_other _ _ _ _ (fun e=>hne (by rw[e]))⟩,⟨by rw[ql],.inr ⟨g,cap,_,by rw[hlen],yaA _,setRow_heap w' g _ _ 111 _ hg',by rw[hlen];omega,hmx,?_,?_⟩⟩⟩
  ·have h2:cur1.toList.length=cap * 2:=by rw[yab,hs1]
   simp only[yJ,yC,yam,ybd,h2,yx,yD];omega
  ·have h2:cur1.toList.length=cap * 2:=by rw[yab,hs1]
   rw[hlen,<-ht1,yav,List.take_left'];rw[yam,h2];omega
 have hglt:Hid (g<w.heap.size):=(yk.1 hcur).1;have HCUR:Hid (w.heap[g]?=some (.cells cur 111 (0,0))):=hcur;have hk0:(0:Int)<=(k:Int):=by omega
 have hk1:(k:Int)<=((k+1:Nat):Int):=by omega
 have hk2:((k+1:Nat):Int)<=(pl.length:Int):=by omega
 have hk3:(pl.length:Int)<=(cap:Int):=by omega
 have hk4:¬(k:Int)=((k+1:Nat):Int):=by omega
 have hk6:(k:Int)+1<=(pl.length:Int):=by omega
 have hk7:(0:Int)<=(k:Int)+1:=by omega
 have hk5:(k:Int)<=(cap:Int):=by omega
 clear r hcur hc1 hs1 ht1;go_enter Tryz.func114,Tryz.ntmps114
 go_wp2_with fail
 have hkk:((k:Int) == (k:Int)+1)=false:=by rw[beq_eq_false_iff_ne];omega
 refine wp_region_held_drew (S:=fun _=>True) rfl trivial (fun hHeld=>?_);refine wk 0 ?_;refine wk 1 ?_;refine wk 2 ?_;refine wk 3 ?_;refine wk 4 ?_;refine wk 5 ?_;obtain⟨w2,A,hA,hrun,hg2,hh2⟩:=HAPP.out w.drew 92 (cap - (k+1)) HCUR.out;rw[hA];refine we 6 fun K hK=>?_;refine qfh rfl (.tmp 22) (.tmp 25) 92 rfl _ _ _ rfl rfl hrun ?_;refine hK.out _ _ trivial (fun hHeld=>?_);clear hK K;try simp only[pU]
 refine wpAnyH_take (i:=7) (v:=?v7_7) rfl (by kernel_rfl) (by kernel_rfl) (by kernel_rfl) (fun _ _ _ h=>h) (Or.inl ⟨by rfl,?y7_7⟩) (by assumption) ?r7_7
 case y7_7=>(intro w' hSw;(try dsimp only at hSw);go_simp;(try with_reducible rfl))
 try simp only[Act.put,ybj,List.set_cons_zero,yf,yd,ye]
 refine wpAnyH_done (by kernel_rfl) ?_ _;obtain⟨w3,hcl,hg3,hown3⟩:=HCL.out w2 hh2;have HG:Hid (w.grownBy w3 (some g)):=(⟨hg2.os,hg2.tape,hg2.output,hg2.size,hg2.block⟩:w.grownBy w2 (some g)).trans hg3;have HOWN:Hid (w3.ownsRow 0 111 2 (sT g (pl.length - 1) cap) (pl.eraseIdx k).length (parCells (pl.eraseIdx k))):=hown3;have hm0:(0:Int)<=((pl.length - 1:Nat):Int):=by omega
 have hm1:((pl.length - 1:Nat):Int)<=(pl.length:Int):=by omega
 have hm2:(pl.length:Int)<=(cap:Int):=by omega
 have hm3:pl.length - (pl.length - 1)=1:=by omega
 clear hrun hg2 hh2 hg3 hown3 HAPP HCL HCUR hHeld;go_wp2_with fail
 go_ret;exact⟨rfl,HG.out,HOWN.out,fun g' hg'=>by
  have:g'=g:=by simpa[Value.ownBlock] using hg'.symm
  rw[this];exact hfoot⟩
theorem store2{w:World}{X:Nat}{T:TypeId}{x0 x1:Value}(h:BlkAt w X T #[x0,x1])(a0 a1:Value) :
 BlkAt ((w.setCell ⟨X,0,none⟩ a0).setCell ⟨X,1,none⟩ a1) X T #[a0,a1]/\Only X w ((w.setCell ⟨X,0,none⟩ a0).setCell ⟨X,1,none⟩ a1):=by
 have b0:BlkAt _ X T #[a0,x1]:=h.set 0 a0;have b1:BlkAt _ X T #[a0,a1]:=b0.set 1 a1;exact⟨b1,((Only.refl X w).set 0 a0).set 1 a1⟩
theorem qgh(p:NetA w Fn gb pv lim pl nv)(hl:pl.length<=1000000)(k:Nat)(x:Par)(hk:pl[k]?=some x) :
 Calls prog 73 #[pT gb 1,J k] w fun e w'=>e=.returned (.tuple #[.agg #[J x.1,.string x.2],J 0])/\Chg (fun y=>Fn y\/y=gb) w w'/\∃nv',NetA w' Fn gb pv lim (pl.eraseIdx k) nv':=by
 have hkl:k<pl.length:=(ym.1 hk).1;obtain⟨x1,x2⟩:=x;simp only;obtain⟨g,cap,hv,hFg,hgl,d0,d1, -⟩:=qdp p.row hk;subst hv;have hgg:g≠gb:=fun e=>p.gbrow (by rw[<-e];rfl);have hB0:Below w.heap.size w (w.alloc (.cells #[J 0,.string ⟨#[]⟩] 111)):=(yi _ _).alloc (yb _) _;have HH:Hid (Calls prog 113 _ _ _):=qdd (p.below hB0) k hkl;have HP:Hid (NetA w Fn gb pv lim pl (sT g pl.length cap)):=p;have HB0:Hid (Below w.heap.size w (w.alloc (.cells #[J 0,.string ⟨#[]⟩] 111))):=hB0;have HX0:Hid (BlkAt (w.alloc (.cells #[J 0,.string ⟨#[]⟩] 111)) w.heap.size 111 #[J 0,.string ⟨#[]⟩]):=BlkAt.new w w.heap.size rfl 111 _;have c2:=(p.below hB0).blk.cell 2 _ rfl;have e0:=(hB0.cell (p:=⟨g,k * 2,none⟩) hgl).trans d0;have e1:=(hB0.cell (p:=⟨g,k * 2+1,none⟩) hgl).trans d1;simp only[yf,yd,ye] at c2;have hk0:(0:Int)<=(k:Int):=by omega
 have hk1:(k:Int)<(pl.length:Int):=by omega
 have hwr:wrap64 ((k:Int)+1)=((k+1:Nat):Int):=by unfold wrap64;omega
 have hs0:Hid ((w.alloc (.cells #[J 0,.string ⟨#[]⟩] 111)).heap.size=w.heap.size+1):=by simp[Hid]
 have hlen:Hid ((pl.eraseIdx k).length=pl.length - 1):=by rw[Hid,List.length_eraseIdx,if_pos hkl]
 clear p hB0 d0 d1 hk;go_enter Tryz.func73,Tryz.ntmps73
 go_wp2_with fail
 refine HH.out.mono ?_;rintro e w1 ⟨rfl,hw1⟩;subst hw1;have hnx:g≠w.heap.size:=by omega
 have hgbl:gb<w.heap.size:=HP.out.blk.lt;have HX1:Hid (BlkAt ((w.alloc (.cells #[J 0,.string ⟨#[]⟩] 111)).alloc (.cells #[J x1,.string x2] 111)) (w.heap.size+1) 111 #[J x1,.string x2]):=BlkAt.new _ _ (by simp) 111 _;have hB1:Below w.heap.size w ((w.alloc (.cells #[J 0,.string ⟨#[]⟩] 111)).alloc (.cells #[J x1,.string x2] 111)):=HB0.out.alloc (by simp) _;have HB1:Hid (Below w.heap.size w ((w.alloc (.cells #[J 0,.string ⟨#[]⟩] 111)).alloc (.cells #[J x1,.string x2] 111))):=hB1;have HX01:Hid (BlkAt ((w.alloc (.cells #[J 0,.string ⟨#[]⟩] 111)).alloc (.cells #[J x1,.string x2] 111)) w.heap.size 111 #[J 0,.string ⟨#[]⟩]):=HX0.out.alloc _;have c2':=(HP.out.below hB1).blk.cell 2 _ rfl;simp only[yf,yd,ye] at c2';have hs1:Hid (((w.alloc (.cells #[J 0,.string ⟨#[]⟩] 111)).alloc (.cells #[J x1,.string x2] 111)).heap.size=w.heap.size+1+1):=by simp[Hid]
 have hcast:((k+1:Nat):Int)=(k:Int)+1:=by omega
 have HD:Hid (Calls prog 114 #[sT g pl.length cap,J k,J ((k:Int)+1)] ((w.alloc (.cells #[J 0,.string ⟨#[]⟩] 111)).alloc (.cells #[J x1,.string x2] 111)) _):=hcast▸qnn (HP.out.below hB1).row k hkl hl;clear hB1 HH hcast;go_wp2_with fail
 generalize ((w.alloc (.cells #[J 0,.string ⟨#[]⟩] 111)).alloc (.cells #[J x1,.string x2] 111))=w2 at HX1 HB1 HX01 c2' hs1 HD ⊢;refine HD.out.mono ?_;rintro e w3 ⟨rfl,hgr,hrow⟩;have far:∀y,y<w2.heap.size->y≠g->w3.heap[y]?=w2.heap[y]?:=fun y hy hne=>hgr.block y hy (fun e=>hne (by injection e));have hX0:BlkAt w3 w.heap.size 111 #[J 0,.string ⟨#[]⟩]:=(far _ (by rw[hs1.out];omega) (by omega)).trans HX01.out;have hX1:BlkAt w3 (w.heap.size+1) 111 #[J x1,.string x2]:=(far _ (by rw[hs1.out];omega) (by omega)).trans HX1.out;have hbk:BlkAt w3 gb 97 #[pv,J lim,sT g pl.length cap]:=(far gb (by rw[hs1.out];omega) hgg.symm).trans (HP.out.below HB1.out).blk;have f2:=hbk.frozen 2;have b2:=hbk.cell 2 _ rfl;have HSET:=hbk.set 2 (sT g (pl.length - 1) cap);have hO3:Only gb w3 (w3.setCell ⟨gb,2,none⟩ (sT g (pl.length - 1) cap)):=(Only.refl _ _).set _ _;have hX1':BlkAt (w3.setCell ⟨gb,2,none⟩ (sT g (pl.length - 1) cap)) (w.heap.size+1) 111 #[J x1,.string x2]:=(hO3.block _ (by omega)).trans hX1;have HX0':Hid (BlkAt (w3.setCell ⟨gb,2,none⟩ (sT g (pl.length - 1) cap)) w.heap.size 111 #[J 0,.string ⟨#[]⟩]):=(hO3.block _ (by omega)).trans hX0;have r0:=hX1'.cell 0 _ rfl;have r1:=hX1'.cell 1 _ rfl;have g0:=HX0'.out.frozen 0;have g1:=HX0'.out.frozen 1;have q0:=HX0'.out.cell 0 _ rfl;have q1:=HX0'.out.cell 1 _ rfl;simp only[yf,yd,ye] at r0 r1 q0 q1 b2;have HNET:Hid (NetA (w3.setCell ⟨gb,2,none⟩ (sT g (pl.length - 1) cap)) Fn gb pv lim (pl.eraseIdx k) (sT g (pl.length - 1) cap)):=⟨HSET,hrow.kept fun g' hg'=>hO3.block g' (fun e=>by
  have:g'=g:=by simpa[Value.ownBlock] using hg'.symm
  omega)⟩
 have HCHG:Hid (Chg (fun y=>Fn y\/y=gb) w (w3.setCell ⟨gb,2,none⟩ (sT g (pl.length - 1) cap))):=(Chg.of_below HB1.out).trans ((Chg.of_grown hgr fun y hy=>by injection hy with hy;subst hy;exact .inl (.inl hFg)).trans (Chg.of_only hO3 (.inl (.inl (.inr rfl)))));clear far hX0 hX1 hbk HSET hO3 hX1' hgr hrow HD HX1 HX01 c2';go_wp2_with fail
 generalize w3.setCell ⟨gb,2,none⟩ (sT g (pl.length - 1) cap)=w4 at HX0' r0 r1 g0 g1 q0 q1 HNET HCHG ⊢;obtain⟨hS,hO⟩:=store2 HX0'.out (J x1) (.string x2);have HF:Hid (Chg (fun y=>Fn y\/y=gb) w ((w4.setCell ⟨w.heap.size,0,none⟩ (J x1)).setCell ⟨w.heap.size,1,none⟩ (.string x2))/\NetA ((w4.setCell ⟨w.heap.size,0,none⟩ (J x1)).setCell ⟨w.heap.size,1,none⟩ (.string x2)) Fn gb pv lim (pl.eraseIdx k) (sT g (pl.length - 1) cap)):=by
  refine⟨HCHG.out.trans (Chg.of_only hO (.inr (yb _))),(hO.block gb (by omega)).trans HNET.out.blk,HNET.out.row.kept fun g' hg'=>hO.block g' (fun e=>?_)⟩;have:g'=g:=by simpa[Value.ownBlock] using hg'.symm
  omega
 generalize ((w4.setCell ⟨w.heap.size,0,none⟩ (J x1)).setCell ⟨w.heap.size,1,none⟩ (.string x2))=w5 at hS hO HF ⊢;have s0:=hS.cell 0 _ rfl;have s1:=hS.cell 1 _ rfl;simp only[yf,yd,ye] at s0 s1
 (try simp only[Exit.inBlock,Exit.then])
 refine bodyPost_ret (v:=.tuple #[.agg #[J x1,.string x2],J 0]) (by simp[results,Tryz.results73,go_sem,s0,s1]) rfl ?_;exact⟨rfl,HF.out.1,_,HF.out.2⟩
end
section
open Go.RowKit
open Go.ChangeMaps (setBlock)
variable {w w':World}{F:Nat->Prop}{b:Nat}{h:Hd}{kn:List (List Int)}{l:Msgs}{evs:List Ev}{snt:List Par}{kb mb:Nat}{rbs:List Nat}{es:Array MapEntry}{clk:Nat}{ev sv:Value}
theorem qqu(p:PA w F b h kn l evs snt kb mb rbs es clk ev sv):Calls prog 103 #[pT b 0] w fun e w'=>e=.returned sv/\Only b w w'/\PA w' F b h kn l evs [] kb mb rbs es clk ev (sN)/\Row w' F 111 2 sv snt.length (parCells snt):=by
 have c18:=p.blk.cell 18 _ rfl;have f18:=p.blk.frozen 18;simp only[Hd.cells,yf,yd,ye] at c18;have hO:Only b w (w.setCell ⟨b,18,none⟩ (sN)):=(Only.refl _ _).set _ _;have keep:∀{e:TypeId}{sz:Nat}{v:Value}{n:Nat}{xs:List Value},Row w F e sz v n xs->e≠159->Row (w.setCell ⟨b,18,none⟩ (sN)) F e sz v n xs:=fun r he=>r.kept fun g hg=>hO.block g (r.ne hg p.blk he);have HR:Hid (Only b w (w.setCell ⟨b,18,none⟩ (sN))/\PA (w.setCell ⟨b,18,none⟩ (sN)) F b h kn l evs [] kb mb rbs es clk ev (sN)/\Row (w.setCell ⟨b,18,none⟩ (sN)) F 111 2 sv snt.length (parCells snt)):=
  ⟨hO,p.rehead (h':=h) rfl (p.blk.set 18 _) (fun x _ hx _ _=>hO.block x hx) (keep p.event (by decide)) ⟨y9 _ _ _ _,fun g hg=>by cases hg⟩,keep p.sent (by decide)⟩
 clear p hO keep;go_enter Tryz.func103,Tryz.ntmps103
 go_wp2_with fail
 go_ret;exact⟨rfl,HR.out⟩
def sentAll(lim:Nat)(pl:List Par)(cs:List Par):List Par:=cs.foldl (sentTo lim) pl
theorem qit(lim:Nat)(pl cs:List Par)(c:Par):sentAll lim pl (cs++[c])=sentTo lim (sentAll lim pl cs) c:=by simp[sentAll]
theorem qlu(lim:Nat)(pl:List Par)(c:Par):(sentTo lim pl c).length<=pl.length+1:=by unfold sentTo;split <;> simp
theorem qfi(lim:Nat)(cs:List Par):∀pl:List Par,(sentAll lim pl cs).length<=pl.length+cs.length:=by
 induction cs with
 |nil=>intro pl;exact yb _
 | cons c cs ih =>
   intro pl;have h1:=ih (sentTo lim pl c);have h2:=qlu lim pl c;simp only[sentAll,List.foldl_cons,yx] at h1 ⊢;omega
theorem qiu{lim:Nat}{cs:List Par}:∀{pl:List Par},pl.length+cs.length<=lim->sentAll lim pl cs=pl++cs:=by
 induction cs with
 |nil=>intro pl _;simp[sentAll]
 | cons c cs ih =>
   intro pl hl;simp only[yx] at hl;have e:sentTo lim pl c=pl++[c]:=if_pos (by omega);have:=ih (pl:=pl++[c]) (by simp;omega);simp only[sentAll,List.foldl_cons,e] at this ⊢;rw[this];simp
variable {Fn:Nat->Prop}{gb:Nat}{pv:Value}{lim:Nat}{pl:List Par}{nv:Value}
theorem qkw(p:PA w F b h kn l evs snt kb mb rbs es clk ev sv)(nt:NetA w Fn gb pv lim pl nv)(hdis:∀x,F x->¬Fn x)(hgb:¬F gb)(hl:pl.length+snt.length<=1000000) :
 Calls prog 62 #[pT gb 0,pT b 0] w fun e w'=>e=.returned (.tuple #[])/\Chg (fun x=>x=b\/Fn x\/x=gb) w w'/\(∃ev' sv',PA w' F b h kn l evs [] kb mb rbs es clk ev' sv')/\∃nv',NetA w' (Plus Fn w) gb pv lim (sentAll lim pl snt) nv':=by
 have HS:Hid (Calls prog 103 _ _ _):=qqu p;have hbgb:b≠gb:=fun e=>hgb (e▸p.fb);have hbF:=p.fb;obtain⟨ao,vc,hv⟩:=qp p.sent.row;have HSTEP:Hid (∀w1 wr k nv' c,w1.heap.size=w.heap.size->Row w1 F 111 2 sv snt.length (parCells snt)->Chg (fun x=>Fn x\/x=gb) w1 wr->NetA wr (Plus Fn w1) gb pv lim (sentAll lim pl (snt.take k)) nv'->snt[k]?=some c->(∃g,ao=some ⟨g,0,none⟩/\wr.cell? ⟨g,k * 2,none⟩=some (J c.1)/\wr.cell? ⟨g,k * 2+1,none⟩=some (.string c.2))/\∀w2,Below wr.heap.size wr w2->Calls prog 104 #[pT gb 1,.agg #[J c.1,.string c.2]] w2 fun e w3=>e=.returned (.tuple #[])/\Chg (fun x=>Fn x\/x=gb) w1 w3/\∃nv',NetA w3 (Plus Fn w1) gb pv lim (sentAll lim pl (snt.take (k+1))) nv'):=fun w1 wr k nv' c hsz hrow hch hnt hc=>by
  obtain⟨g,cap,hv',hFg,hgl,c0,c1, -⟩:=qdp hrow hc;have hao:ao=some ⟨g,0,none⟩:=by rw[hv] at hv';injection hv'
  have hkeep:wr.heap[g]?=w1.heap[g]?:=hch.block g hgl (fun e=>by
   rcases e with e|e
   ·exact hdis g hFg e
   ·exact hgb (e▸hFg))
  have hkl:k<snt.length:=(ym.1 hc).1;refine⟨⟨g,hao,(yq (a:=⟨g,k * 2,none⟩) hkeep).trans c0,(yq (a:=⟨g,k * 2+1,none⟩) hkeep).trans c1⟩,fun w2 hb2=>?_⟩;have hlen:=qfi lim (snt.take k) pl;rw[yam] at hlen;refine(qgg (hnt.below hb2) c (by omega)).mono ?_;rintro e w3 ⟨rfl,hch3,nv3,hn3⟩;refine⟨rfl,hch.trans ((Chg.of_below hb2).trans (hch3.mono fun x hx hx'=>?_)),nv3,?_⟩
  ·rcases hx' with (hx'|hx')|hx'
   ·exact .inl (.inl (.inl hx'))
   ·exact .inl (.inr hx')
   ·exact .inl (.inl (.inr hx'))
  ·rw[yaM,hc];simp only[Option.toList_some];rw[qit];refine hn3.wide fun x hx=>?_;rcases hx with hx|hx
   ·exact hx
   ·exact .inr (by have:=hch.size;have:=hb2.size;omega)
 have HFIN:Hid (∀w1 wr nv',Only b w w1->PA w1 F b h kn l evs [] kb mb rbs es clk ev (sN)->Chg (fun x=>Fn x\/x=gb) w1 wr->NetA wr (Plus Fn w1) gb pv lim (sentAll lim pl (snt.take snt.length)) nv'->Chg (fun x=>x=b\/Fn x\/x=gb) w wr/\(∃ev' sv',PA wr F b h kn l evs [] kb mb rbs es clk ev' sv')/\∃nv',NetA wr (Plus Fn w) gb pv lim (sentAll lim pl snt) nv'):=fun w1 wr nv' hO hp hch hnt=>by
  rw[yaT] at hnt;refine⟨(Chg.of_only hO (.inl rfl)).trans (hch.mono fun x _ hx=>.inl (.inr hx)),⟨ev,_,hp.kept fun x hx hxl=>hch.block x hxl (fun e=>?_)⟩,nv',hnt.wide fun x hx=>?_⟩
  ·rcases e with e|e
   ·exact hdis x hx e
   ·exact hgb (e▸hx)
  ·rcases hx with hx|hx
   ·exact .inl hx
   ·exact .inr (by rw[hO.size] at hx;exact hx)
 have HN:Hid (∀w1,Only b w w1->NetA w1 (Plus Fn w1) gb pv lim (sentAll lim pl (snt.take 0)) nv):=fun w1 hO=>⟨(hO.block gb hbgb.symm).trans nt.blk,⟨qd nt.row.row fun g hg=>hO.block g (fun e=>hdis b hbF (e▸nt.row.foot g hg)),fun g hg=>.inl (nt.row.foot g hg)⟩⟩;subst hv;have hl6:Hid (snt.length<=1000000):=by simp only[Hid];omega
 clear p nt hdis hl;go_enter Tryz.func62,Tryz.ntmps62
 go_wp2_with fail
 refine HS.out.mono ?_;rintro e w1 ⟨rfl,hO,hp,hrow⟩;have HO:Hid (Only b w w1):=hO;have HP:Hid (PA w1 F b h kn l evs [] kb mb rbs es clk ev (sN)):=hp;have HROW:Hid (Row w1 F 111 2 (.slice ao snt.length vc) snt.length (parCells snt)):=hrow;have HN1:Hid (NetA w1 (Plus Fn w1) gb pv lim (sentAll lim pl (snt.take 0)) nv):=HN.out w1 hO;clear hO hp hrow HS HN;go_wp2_with fail
 go_loopw [9] (fun i wr=>∃k:Nat,k<=snt.length/\i=J k/\Chg (fun x=>Fn x\/x=gb) w1 wr/\∃nv',NetA wr (Plus Fn w1) gb pv lim (sentAll lim pl (snt.take k)) nv') (fun i _=>snt.length - (intOf i).toNat)
 case atStart=>exact⟨0,by omega,rfl,Chg.refl _ _,nv,HN1.out⟩
 case round=>
  obtain⟨k,hk,rfl,hch,nv',hnt⟩:=hrel;have hll:=hl6.out;by_cases hlt:k<snt.length
  ·obtain⟨⟨c1,c2⟩,hcc⟩:∃c,snt[k]?=some c:=⟨_,yh hlt⟩;obtain⟨⟨g,rfl,e0,e1⟩,hcall⟩:=HSTEP.out w1 wr k nv' _ HO.out.size HROW.out hch hnt hcc;simp only at e0 e1 hcall;have HCALL:Hid (∀w2,Below wr.heap.size wr w2->Calls prog 104 #[pT gb 1,.agg #[J c1,.string c2]] w2 fun e w3=>e=.returned (.tuple #[])/\Chg (fun x=>Fn x\/x=gb) w1 w3/\∃nv',NetA w3 (Plus Fn w1) gb pv lim (sentAll lim pl (snt.take (k+1))) nv'):=hcall;have hlt1:(k:Int)<(snt.length:Int):=by omega
   have hk0:(0:Int)<=(k:Int):=by omega
   have hX:=BlkAt.new wr wr.heap.size rfl 111 #[J c1,.string c2];have d0:=hX.cell 0 _ rfl;have d1:=hX.cell 1 _ rfl;simp only[yf,yd,ye] at d0 d1;have HB2:Hid (Below wr.heap.size wr (wr.alloc (.cells #[J c1,.string c2] 111))):=(yi _ _).alloc (yb _) _;clear hch hnt hcc hcall HSTEP HFIN hX HN1;go_wp2_with fail
   generalize wr.alloc (.cells #[J c1,.string c2] 111)=w2 at HB2 d0 d1 ⊢;refine Ends.begin (fun w'=>w'.cell? (aT wr.heap.size 0)=some (J c1)/\w'.cell? (aT wr.heap.size 1)=some (.string c2)) 4 rfl ⟨d0,d1⟩ (fun hHeld=>?_);refine tk 3 ?_;refine te 0 fun K hK=>?_;go_simp;refine hK.out _ _ (fun _=>⟨d0,d1⟩) (fun hHeld=>?_);clear hK K;try simp only[pU]
   refine te 1 fun K hK=>?_;go_simp;refine hK.out _ _ (fun _=>⟨d0,d1⟩) (fun hHeld=>?_);clear hK K;try simp only[pU]
   refine te 2 fun K hK=>?_;go_simp;refine hK.out _ _ (fun _=>⟨d0,d1⟩) (fun hHeld=>?_);clear hK K;try simp only[pU]
   refine te 4 fun K hK=>?_;go_simp;refine(HCALL.out _ HB2.out.drew).mono ?_;rintro e w3 ⟨rfl,hres⟩;have HRES:Hid (Chg (fun x=>Fn x\/x=gb) w1 w3/\∃nv',NetA w3 (Plus Fn w1) gb pv lim (sentAll lim pl (snt.take (k+1))) nv'):=hres;clear hres HCALL;go_wp2_with fail
   refine hK.out _ _ (fun h=>absurd rfl h) (fun _=>?_);clear hK K;try simp only[pU]
   refine Ends.done (by kernel_rfl) ?_ _;go_wp2_with fail
   exact⟨⟨k+1,by omega,by go_num,HRES.out.1,HRES.out.2⟩,by simp[intOf];omega⟩
  ·have hge:¬(k:Int)<(snt.length:Int):=by omega
   have hkl:k=snt.length:=by omega
   subst hkl;have HE:Hid (_/\_/\_):=HFIN.out w1 wr nv' HO.out HP.out hch hnt;clear hch hnt HSTEP HFIN HN1;go_wp2_with fail
   go_end0
   exact⟨rfl,HE.out⟩
end
section
open Go.RowKit
open Go.ChangeMaps (setBlock)
variable {w w':World}{Fn:Nat->Prop}{gb:Nat}{pv:Value}{lim:Nat}{pl:List Par}{nv:Value}
theorem xor8(c:UInt8)(m:Nat)(hm:m<=255):bits .xor .u8 (c.toNat:Int) (IntKind.u8.wrap (m:Int))=((c ^^^ UInt8.ofNat m).toNat:Int):=by
 have hw:IntKind.u8.wrap (m:Int)=(m:Int):=by simp[IntKind.wrap,IntKind.bits,IntKind.signed];omega
 have hc:c.toNat<256:=c.toNat_lt;have h1:(BitVec.ofInt 8 (c.toNat:Int)).toNat=c.toNat:=by rw[BitVec.toNat_ofInt];omega
 have h2:(BitVec.ofInt 8 (m:Int)).toNat=m:=by rw[BitVec.toNat_ofInt];omega
 rw[hw];show IntKind.u8.wrap ((BitVec.ofInt 8 (c.toNat:Int) ^^^ BitVec.ofInt 8 (m:Int)).toNat:Nat)=_;have hx:c.toNat ^^^ m<256:=Nat.xor_lt_two_pow (n:=8) hc (by omega);have h3:(c ^^^ UInt8.ofNat m).toNat=c.toNat ^^^ m:=by
  rw[UInt8.toNat_xor,UInt8.toNat_ofNat',Nat.mod_eq_of_lt (by omega)]
 rw[BitVec.toNat_xor,h1,h2,h3];simp[IntKind.wrap,IntKind.bits,IntKind.signed];omega
theorem qd4:∀(pl:List Par) (k:Nat) (x y:Par),pl[k]?=some x->x.1=y.1->(parCells pl).set (k * 2+1) (.string y.2)=parCells (pl.set k y)
 |[],k,x,y,h,_=>by cases h
 | z :: pl, 0, x, y, h, e => by
   simp only[yak,yA] at h;subst h;show [Value.int .i64 z.1,.string y.2]++parCells pl=[Value.int .i64 y.1,.string y.2]++parCells pl;rw[e]
 | z :: pl, k + 1, x, y, h, e => by
   have:=qd4 pl k x y (by simpa using h) e;show ([Value.int .i64 z.1,.string z.2]++parCells pl).set ((k+1) * 2+1) _=[Value.int .i64 z.1,.string z.2]++parCells (pl.set k y);rw[<-this,show (k+1) * 2+1=k * 2+1+1+1 by omega];rfl
def turned(x:ByteArray)(i m:Nat):ByteArray:=⟨(x.data.toList.set i (x.data.toList.getD i 0 ^^^ UInt8.ofNat m)).toArray⟩
theorem qno(w:World)(x:ByteArray):∃c w1,(convert 9 175 (.string x)).run prog w=.ok (sT w.heap.size x.size c) w1/\Below w.heap.size w w1/\(∀j,j<x.size->w1.cell? (aT w.heap.size j)=some (.int .u8 ((x.data.toList.getD j 0).toNat:Int))/\w1.frozen? (aT w.heap.size j)=false):=by
 have h:=run_bytes_of_string (P:=prog) w 9 175 5 x Tryz.underlying9 Tryz.underlying175 Tryz.underlying5;refine⟨_,_,h,((yi _ _).drew.alloc (yb _) _),fun j hj=>?_⟩;have hh:(w.drew.alloc (.cells (bytesRow x (grownCap w x.size 0 5)) 5 ((bytesRow x (grownCap w x.size 0 5)).size,(bytesRow x (grownCap w x.size 0 5)).size+1))).heap[w.heap.size]?=some (.cells (bytesRow x (grownCap w x.size 0 5)) 5 ((bytesRow x (grownCap w x.size 0 5)).size,(bytesRow x (grownCap w x.size 0 5)).size+1)):=heap_alloc_new w.drew _;have hsz:x.size<=(bytesRow x (grownCap w x.size 0 5)).size:=by
  unfold bytesRow;rw[Array.size_append,yaI];exact Nat.le_add_right _ _
 refine⟨?_,?_⟩
 ·rw[cell_of_row _ _ j _ 5 _ hh];unfold bytesRow;have hj':j<x.data.size:=hj;rw[Array.getElem?_append_left (by simpa using hj'),yw,yl hj'];simp only[yp,yj,Array.getElem?_toList,yl hj',yv]
 ·simp only[World.frozen?,hh];simp;omega
theorem qhq(p:NetA w Fn gb pv lim pl nv)(k:Nat)(x:Par)(hk:pl[k]?=some x)(i m:Nat)(hi:i<x.2.size)(hm1:1<=m)(hm2:m<=255)(hsz:x.2.size<=1000000) :
 Calls prog 127 #[pT gb 1,J k,J i,J m] w fun e w'=>e=.returned (J 0)/\Chg Fn w w'/\NetA w' Fn gb pv lim (pl.set k (x.1,turned x.2 i m)) nv:=by
 have hkl:k<pl.length:=(ym.1 hk).1;obtain⟨x1,x2⟩:=x;simp only at hi hsz ⊢;obtain⟨g,cap,hv,hFg,hgl,d0,d1,cur,hcur⟩:=qdp p.row hk;have HH:Hid (Calls prog 113 _ _ _):=qdd p k hkl;obtain⟨c,w1,hcv,hB1,hcell⟩:=qno w x2;have HB1:Hid (Below w.heap.size w w1):=hB1;have c2:=p.blk.cell 2 _ rfl;simp only[yf,yd,ye,hv] at c2;have bi:=(hcell i hi).1;have fi:=(hcell i hi).2;have hxl:x2.data.toList.length=x2.size:=by simp
 have hO2:Only w.heap.size w1 (w1.setCell ⟨w.heap.size,i,none⟩ (.int .u8 ((x2.data.toList.getD i 0 ^^^ UInt8.ofNat m).toNat:Int))):=(Only.refl _ _).set _ _;have hB2:Below w.heap.size w (w1.setCell ⟨w.heap.size,i,none⟩ (.int .u8 ((x2.data.toList.getD i 0 ^^^ UInt8.ofNat m).toNat:Int))):=hB1.trans (hO2.below (yb _));have HBK:Hid (∀w',Below (w1.setCell ⟨w.heap.size,i,none⟩ (.int .u8 ((x2.data.toList.getD i 0 ^^^ UInt8.ofNat m).toNat:Int))).heap.size (w1.setCell ⟨w.heap.size,i,none⟩ (.int .u8 ((x2.data.toList.getD i 0 ^^^ UInt8.ofNat m).toNat:Int))) w'->(convert 175 9 (sT w.heap.size x2.size c)).run prog w'=.ok (.string (turned x2 i m)) w'):=fun w' hw=>by
  have hX2:w.heap.size<(w1.setCell ⟨w.heap.size,i,none⟩ (.int .u8 ((x2.data.toList.getD i 0 ^^^ UInt8.ofNat m).toNat:Int))).heap.size:=by
   have:=yI w1 _ bi;simpa using this
  have hl':(x2.data.toList.set i (x2.data.toList.getD i 0 ^^^ UInt8.ofNat m)).length=x2.size:=by simp
  have:=run_convert_bytes_back (P:=prog) w' 175 9 5 ⟨w.heap.size,0,none⟩ c (x2.data.toList.set i (x2.data.toList.getD i 0 ^^^ UInt8.ofNat m)) Tryz.underlying175 Tryz.underlying5 Tryz.underlying9 (fun j hj=>by
   rw[hl'] at hj;rw[add0,(hw.cell (p:=(aT w.heap.size j)) hX2)];by_cases e:j=i
   ·subst e;rw[List.getElem_set_self];exact World.cell?_setCell_same w1 ⟨w.heap.size,j,none⟩ _ bi
   ·rw[List.getElem_set_ne (fun h=>e h.symm),World.cell?_setCell_other _ _ _ _ (fun h=>e (by injection h with _ h;exact h.symm)),(hcell j hj).1];congr 3;rw[yj,yh (by rw[hxl];exact hj)];rfl)
  rw[hl'] at this;exact this
 have hxor:=xor8 (x2.data.toList.getD i 0) m hm2;rw[show IntKind.u8.wrap (m:Int)=(m:Int) by simp[IntKind.wrap,IntKind.bits,IntKind.signed];omega] at hxor;have HP:Hid (NetA w Fn gb pv lim pl nv):=p;have hgne:g≠gb:=fun e=>p.gbrow (by rw[hv,<-e];rfl);have hi0:¬(i:Int)<0:=by omega
 have hi00:(0:Int)<=(i:Int):=by omega
 have hi1:¬(x2.size:Int)<=(i:Int):=by omega
 have hi2:(i:Int)<(x2.size:Int):=by omega
 have hm3:¬(m:Int)<1:=by omega
 have hm4:¬(255:Int)<(m:Int):=by omega
 have hk0:(0:Int)<=(k:Int):=by omega
 have hk1:(k:Int)<(pl.length:Int):=by omega
 have c2':=(HB1.out.cell (p:=(aT gb 2)) p.blk.lt).trans c2;have HB2:Hid (Below w.heap.size w (w1.setCell ⟨w.heap.size,i,none⟩ (.int .u8 ((x2.data.toList.getD i 0 ^^^ UInt8.ofNat m).toNat:Int)))):=hB2;have hgX:g≠w.heap.size:=by omega
 have HROW:Hid (Row w Fn 111 2 nv pl.length (parCells pl)):=p.row;have HTK:Hid (∀w',Below w.heap.size w w'->Chg Fn w (w'.setCell ⟨g,k * 2+1,none⟩ (.string (turned x2 i m)))/\NetA (w'.setCell ⟨g,k * 2+1,none⟩ (.string (turned x2 i m))) Fn gb pv lim (pl.set k (x1,turned x2 i m)) nv/\w'.frozen? ⟨g,k * 2+1,none⟩=false/\w'.cell? ⟨g,k * 2+1,none⟩=some (.string x2)/\w'.cell? (aT gb 2)=some (sT g pl.length cap)):=fun w' hw=>by
  have hO:Only g w' (w'.setCell ⟨g,k * 2+1,none⟩ (.string (turned x2 i m))):=(Only.refl _ _).set _ _;have hp':=p.below hw;have hcur':BlkAt w' g 111 cur:=(hw.block g hgl).trans hcur;refine⟨(Chg.of_below hw).trans (Chg.of_only hO (.inl hFg)),⟨(hO.block gb hgne.symm).trans hp'.blk,⟨?_,p.row.foot⟩⟩,hcur'.frozen _,(hw.cell (p:=⟨g,k * 2+1,none⟩) hgl).trans d1,(hw.cell (p:=(aT gb 2)) p.blk.lt).trans c2⟩;rcases hp'.row.row.2 with ⟨h0,h1⟩|⟨g',cap',cur',h0,hb0,hc',hle,hmx,hcs,htk⟩
  ·omega
  ·have hgg:g'=g:=by rw[hv] at h0;injection h0 with h0;injection h0 with h0;injection h0 with h0;exact h0.symm
   subst hgg;have hcc:cur'=cur:=by
    have h2:w'.heap[g']?=some (.cells cur 111 (0,0)):=hcur';rw[hc'] at h2;injection h2 with h2;injection h2
   subst hcc;refine⟨by rw[ql],.inr ⟨g',cap',_,by rw[yaO];exact h0,hb0,hcur'.set (k * 2+1) (.string (turned x2 i m)),by rw[yaO];exact hle,hmx,by rw[Array.size_setIfInBounds];exact hcs,?_⟩⟩;rw[yaO,Array.toList_setIfInBounds,List.take_set,htk];exact qd4 pl k (x1,x2) (x1,turned x2 i m) hk rfl
 clear p hcell hB1 hB2 hO2 hm1 hm2;generalize x2.data.toList.getD i 0=bb at bi hxor HBK HB2;generalize bb ^^^ UInt8.ofNat m=cc at hxor HBK HB2;generalize turned x2 i m=tx at HBK HTK ⊢;go_enter Tryz.func127,Tryz.ntmps127
 go_wp2_with fail
 refine HH.out.mono ?_;rintro e w0 ⟨rfl,hw0⟩;subst hw0;go_wp2_with fail
 generalize w1.setCell ⟨w0.heap.size,i,none⟩ (.int .u8 (cc.toNat:Int))=w2 at HBK HB2 ⊢;obtain⟨hch,hnet,hfz,hcl,hc2⟩:=HTK.out w2.drew HB2.out.drew;have HF:Hid (Chg Fn w0 (w2.setCell ⟨g,k * 2+1,none⟩ (.string tx)).drew/\NetA (w2.setCell ⟨g,k * 2+1,none⟩ (.string tx)).drew Fn gb pv lim (pl.set k (x1,tx)) nv):=⟨hch,hnet⟩;have hbk:=HBK.out w2.drew ((yi _ _).drew);clear hch hnet HBK HTK HROW hcv c2 c2' bi fi hxor;refine Ends.begin (fun w'=>w'=w2.drew) 9 rfl rfl (fun hHeld=>?_);refine tk 0 ?_;refine tk 1 ?_;refine tk 2 ?_;refine tk 3 ?_;refine tk 4 ?_;refine tk 5 ?_;refine tk 6 ?_;refine te 7 fun K hK=>?_;go_simp;refine hK.out _ _ (fun _=>rfl) (fun hHeld=>?_);clear hK K;try simp only[pU]
 refine te 8 fun K hK=>?_;go_simp;refine hK.out _ _ (fun _=>rfl) (fun hHeld=>?_);clear hK K;try simp only[pU]
 refine te 9 fun K hK=>?_;go_simp;refine hK.out _ _ (fun h=>absurd rfl h) (fun _=>?_);clear hK K;try simp only[pU]
 refine Ends.done (by kernel_rfl) ?_ _;go_wp2_with fail
 go_ret;exact⟨rfl,HF.out.1,hv▸HF.out.2⟩
end
section
open Go.RowKit
open Go.ChangeMaps (setBlock)
open Go.Pm (Perm SupO FixS)
open Go.Cr (fam Tabs)
structure Pst where
 kn:List (List Int)
 ms:List Codec.Msg
 evs:List Ev
def Pst.mp(s:Pst):Mo.MP:=YtoklolfaemhfnaaGreatDoor.mp s.kn s.ms s.evs
def qre(i n win:Nat):Hd:=⟨i,n,win,false,false,false,0,full n,0,0,0,0,sN,.pointer none,sN⟩
theorem qbb{i n win:Nat}(hi:i<n)(hn:n<=6):CalmHd (qre i n win):=⟨hn,hi,rfl,rfl,rfl,rfl,rfl,rfl,rfl,rfl⟩
structure GA (w:World) (gb pb n win lim:Nat) (bl:Nat->Nat) (Fp:Nat->Nat->Prop) (Fn:Nat->Prop) (st:Nat->Pst) (pl:List Par) (nv:Value):Prop where
 net:NetA w Fn gb (sT pb n n) lim pl nv
 ptr:BlkAt w pb 102 ((List.range n).map fun i=>Value.pointer (some ⟨bl i,0,none⟩)).toArray
 proc:∀i,i<n->PX w (Fp i) (bl i) (qre i n win) (st i).kn (st i).ms (st i).evs []
 ok:∀i,i<n->Ok (qre i n win) (st i).kn (st i).ms (st i).evs/\∀m∈(st i).ms,Codec.msgFits m=true
 dis:∀i j x,i<n->j<n->Fp i x->Fp j x->i=j
 disn:∀i x,i<n->Fp i x->¬Fn x
 disg:∀i,i<n->¬Fp i gb/\¬Fp i pb
 ng:¬Fn gb/\¬Fn pb
 gp:gb≠pb
 bp:∀i x,i<n->Fp i x->x<w.heap.size
 bn:∀x,Fn x->x<w.heap.size
 cl:∀i,i<n->Cl w (Fp i)
 lg:7<=gb/\7<=pb
 ln:∀x,Fn x->7<=x
def Whl(gb pb n:Nat)(Fp:Nat->Nat->Prop)(Fn:Nat->Prop):Nat->Prop:=fun x=>x=gb\/x=pb\/Fn x\/∃i,i<n/\Fp i x
def GX(w:World)(FG:Nat->Prop)(gb n win lim:Nat)(st:Nat->Pst)(pl:List Par):Prop:=
 ∃pb bl Fp Fn nv,GA w gb pb n win lim bl Fp Fn st pl nv/\∀x,Whl gb pb n Fp Fn x->FG x
def setSt(st:Nat->Pst)(i:Nat)(s:Pst):Nat->Pst:=fun j=>if j=i then s else st j
variable {w w':World}{gb pb n win lim:Nat}{bl:Nat->Nat}{Fp:Nat->Nat->Prop}{Fn:Nat->Prop}{st:Nat->Pst}{pl:List Par}{nv:Value}
theorem NetA.clip{pv:Value}(p:NetA w Fn gb pv lim pl nv):NetA w (fun x=>Fn x/\x<w.heap.size) gb pv lim pl nv:=⟨p.blk,p.row.row,fun g hg=>⟨p.row.foot g hg,p.row.lt hg⟩⟩
theorem GA.ptr_cell(g:GA w gb pb n win lim bl Fp Fn st pl nv){i:Nat}(hi:i<n):w.cell? (aT pb i)=some (.pointer (some ⟨bl i,0,none⟩)):=g.ptr.cell i _ (by simp[hi])
theorem GA.below(g:GA w gb pb n win lim bl Fp Fn st pl nv)(hb:Below w.heap.size w w'):GA w' gb pb n win lim bl Fp Fn st pl nv:=
 ⟨g.net.below hb,g.ptr.below hb g.ptr.lt,fun i hi=>(g.proc i hi).below hb,g.ok,g.dis,g.disn,g.disg,g.ng,g.gp,fun i x hi hx=>yg (g.bp i x hi hx) hb.size,fun x hx=>yg (g.bn x hx) hb.size,fun i hi=>(g.cl i hi).below hb,g.lg,g.ln⟩
theorem qab(i n win:Nat):HdFlat (qre i n win):=fun ρ=>by simp[qre]
theorem qnp{F:Nat->Prop}{e:TypeId}{sz:Nat}{v:Value}{m:Nat}{xs:List Value}(r:Row w F e sz v m xs)(hl:∀x,F x->7<=x){σ:Perm}(hσ:FixS fam F σ):v.pm σ=v:=by
 rcases r.row.2 with ⟨h0, -⟩|⟨g,cap,cur,h0, -⟩
 ·rw[h0];simp
 ·have hF:=r.foot g (by rw[h0];rfl);have:σ.f g=g:=hσ.1 g (hl g hF) hF;rw[h0];simp[Addr.pm,this]
theorem PA.top_sup{F:Nat->Prop}{b:Nat}{h:Hd}{kn:List (List Int)}{l:Msgs}{evs:List Ev}{snt:List Par}{kb mb:Nat}{rbs:List Nat}{es:Array MapEntry}{clk:Nat}{ev sv:Value}(p:PA w F b h kn l evs snt kb mb rbs es clk ev sv)(hh:HdFlat h)(hl:∀x,F x->7<=x):SupO fam F (.cells (h.cells (sT kb h.n h.n) (.map (some mb)) ev sv) 159 (0,0)):=by
 intro σ hσ;have h1:σ.f kb=kb:=hσ.1 kb (hl kb p.fk) p.fk;have h2:σ.f mb=mb:=hσ.1 mb (hl mb p.fm) p.fm;simp[Obj.pm,Hd.cells,(hh σ).1,(hh σ).2.1,(hh σ).2.2,Addr.pm,h1,h2,qnp p.event hl hσ,qnp p.sent hl hσ]
theorem GA.carry(g:GA w gb pb n win lim bl Fp Fn st pl nv){i:Nat}(hi:i<n){w1:World}(hch:Chg (Fp i) w w1){s:Pst}{snt:List Par}(hp:PC w1 (Plus (Fp i) w) (bl i) (qre i n win) s.kn s.ms s.evs snt)(hok:Ok (qre i n win) s.kn s.ms s.evs/\∀m∈s.ms,Codec.msgFits m=true)(hl:pl.length+snt.length<=1000000) :
 Calls prog 62 #[pT gb 0,.pointer (some ⟨bl i,0,none⟩)] w1 fun e w2=>e=.returned (.tuple #[])/\Chg (Whl gb pb n Fp Fn) w w2/\∃Fp' Fn' nv',GA w2 gb pb n win lim bl Fp' Fn' (setSt st i s) (sentAll lim pl snt) nv'/\∀x,Whl gb pb n Fp' Fn' x->Plus (Whl gb pb n Fp Fn) w x:=by
 obtain⟨F1,hF1,⟨l,hlm,kb,mb,rbs,es,clk,ev,sv,p⟩,hcl⟩:=hp;have hK:∀x,F1 x->Plus (Fp i) w x/\x<w1.heap.size:=fun x hx=>⟨hF1 x hx,hcl.lt hx⟩;have hbi:bl i<w1.heap.size:=p.blk.lt;have hnet1:NetA w1 Fn gb (sT pb n n) lim pl nv:=⟨(hch.block gb g.net.blk.lt (g.disg i hi).1).trans g.net.blk,g.net.row.kept fun x hx=>hch.block x (g.net.row.lt hx) fun e=>g.disn i x hi e (g.net.row.foot x hx)⟩;have hs1:=hch.size;refine(qkw p hnet1 (fun x hx hxn=>?_) (fun hx=>?_) hl).mono ?_
 ·rcases hF1 x hx with h1|h1
  ·exact g.disn i x hi h1 hxn
  ·have:=g.bn x hxn;omega
 ·rcases hF1 _ hx with h1|h1
  ·exact(g.disg i hi).1 h1
  ·have:=g.net.blk.lt;omega
 ·rintro e w2 ⟨rfl,hch2,⟨ev2,sv2,p2⟩,nv2,hn2⟩;have hs2:=hch2.size;have far:∀x,x<w.heap.size->¬Fp i x->x≠bl i->¬Fn x->x≠gb->w2.heap[x]?=w.heap[x]?:=fun x hx h1 h2 h3 h4=>(hch2.block x (by omega) (fun e=>by
   rcases e with e|e|e
   ·exact h2 e
   ·exact h3 e
   ·exact h4 e)).trans (hch.block x hx h1)
  have hbF:(Plus (Fp i) w (bl i)):=hF1 _ p.fb;have bl_ne:∀j x,j<n->j≠i->Fp j x->x≠bl i:=fun j x hj hne hx e=>by
   subst e;rcases hbF with h1|h1
   ·exact hne (g.dis j i _ hj hi hx h1)
   ·have:=g.bp j _ hj hx;omega
  refine⟨rfl,⟨hch2.os.trans hch.os,hch2.tape.trans hch.tape,hch2.output.trans hch.output,by omega,fun x hx hF=>?_⟩,fun j x=>if j=i then F1 x else Fp j x,fun x=>Plus Fn w1 x/\x<w2.heap.size,nv2,⟨hn2.clip,?_,fun j hj=>?_,fun j hj=>?_,fun j k x hj hk hx hx'=>?_,fun j x hj hx hx'=>?_,fun j hj=>?_,?_,g.gp,fun j x hj hx=>?_,fun x hx=>hx.2,fun j hj=>?_,g.lg,fun x hx=>?_⟩,fun x hx=>?_⟩
  ·refine far x hx (fun e=>hF (.inr (.inr (.inr ⟨i,hi,e⟩)))) (fun e=>?_) (fun e=>hF (.inr (.inr (.inl e)))) (fun e=>hF (.inl e));rcases hbF with h1|h1
   ·exact hF (.inr (.inr (.inr ⟨i,hi,e▸h1⟩)))
   ·omega
  ·refine(far pb g.ptr.lt (g.disg i hi).2 (fun e=>?_) g.ng.2 (fun e=>g.gp e.symm)).trans g.ptr;rcases hbF with h1|h1
   ·exact(g.disg i hi).2 (e▸h1)
   ·have:=g.ptr.lt;omega
  ·by_cases e:j=i
   ·subst e;simp only[if_true,setSt];exact⟨l,hlm,kb,mb,rbs,es,clk,ev2,sv2,p2⟩
   ·simp only[if_neg e,setSt];exact(g.proc j hj).kept fun x hx hxl=>far x hxl (fun e2=>e (g.dis j i x hj hi hx e2)) (bl_ne j x hj e hx) (g.disn j x hj hx) (fun e2=>(g.disg j hj).1 (e2▸hx))
  ·by_cases e:j=i
   ·subst e;simp only[if_true,setSt];exact hok
   ·simp only[if_neg e,setSt];exact g.ok j hj
  ·by_cases e:j=i <;> by_cases e2:k=i <;> simp only[e,e2,if_true,if_false] at hx hx' ⊢
   ·exfalso
    rcases hF1 x hx with h1|h1
    ·exact e2 (g.dis k i x hk hi hx' h1)
    ·have:=g.bp k x hk hx';omega
   ·exfalso
    rcases hF1 x hx' with h1|h1
    ·exact e (g.dis j i x hj hi hx h1)
    ·have:=g.bp j x hj hx;omega
   ·exact g.dis j k x hj hk hx hx'
  ·by_cases e:j=i
   ·subst e;simp only[if_true] at hx;rcases hx'.1 with h2|h2
    ·rcases hF1 x hx with h1|h1
     ·exact g.disn j x hi h1 h2
     ·have:=g.bn x h2;omega
    ·have:=(hK x hx).2;omega
   ·simp only[if_neg e] at hx;rcases hx'.1 with h2|h2
    ·exact g.disn j x hj hx h2
    ·have:=g.bp j x hj hx;omega
  ·have hgl:=g.net.blk.lt;have hpl:=g.ptr.lt;by_cases e:j=i
   ·subst e;simp only[if_true];refine⟨fun h1=>?_,fun h1=>?_⟩ <;> rcases hF1 _ h1 with h2|h2
    ·exact(g.disg j hi).1 h2
    ·omega
    ·exact(g.disg j hi).2 h2
    ·omega
   ·simp only[if_neg e];exact g.disg j hj
  ·have hgl:=g.net.blk.lt;have hpl:=g.ptr.lt;refine⟨fun h1=>?_,fun h1=>?_⟩ <;> rcases h1.1 with h2|h2
   ·exact g.ng.1 h2
   ·omega
   ·exact g.ng.2 h2
   ·omega
  ·by_cases e:j=i
   ·subst e;simp only[if_true] at hx;exact yg (hK x hx).2 hs2
   ·simp only[if_neg e] at hx;have:=g.bp j x hj hx;omega
  ·have hlo2:∀x,x<7->w2.heap[x]?=w1.heap[x]?:=fun x hx=>hch2.block x (yg hx hcl.low) (fun e=>by
    rcases e with e|e|e
    ·have:=(hcl.obj _ p.fb).1;omega
    ·have:=g.ln x e;omega
    ·have:=g.lg.1;omega)
   by_cases e:j=i
   ·subst e;simp only[if_true];refine⟨qae hcl.tab hlo2,yr hcl.low hs2,fun x hx=>?_⟩;obtain⟨h10,o,ho,hs⟩:=hcl.obj x hx;by_cases ex:x=bl j
    ·subst ex;exact⟨h10,_,p2.blk,p2.top_sup (qab j n win) fun y hy=>(hcl.obj y hy).1⟩
    ·refine⟨h10,o,(hch2.block x (hK x hx).2 fun e=>?_).trans ho,hs⟩;rcases e with e|e|e
     ·exact ex e
     ·rcases hF1 x hx with h1|h1
      ·exact g.disn j x hi h1 e
      ·have:=g.bn x e;omega
     ·subst e;rcases hF1 _ hx with h1|h1
      ·exact(g.disg j hi).1 h1
      ·have:=g.net.blk.lt;omega
   ·simp only[if_neg e];refine(g.cl j hj).kept (fun x hx=>far x (g.bp j x hj hx) (fun e2=>e (g.dis j i x hj hi hx e2)) (bl_ne j x hj e hx) (g.disn j x hj hx) (fun e2=>(g.disg j hj).1 (e2▸hx))) (fun x hx=>(hlo2 x hx).trans (hch.block x (yg hx (g.cl i hi).low) fun e=>?_)) (by omega);have:=((g.cl i hi).obj x e).1;omega
  ·rcases hx.1 with h1|h1
   ·exact g.ln x h1
   ·have:=hcl.low;omega
  ·rcases hx with e|e|e|⟨j,hj,e⟩
   ·exact .inl (.inl e)
   ·exact .inl (.inr (.inl e))
   ·rcases e.1 with h1|h1
    ·exact .inl (.inr (.inr (.inl h1)))
    ·exact .inr (by omega)
   ·by_cases e2:j=i
    ·subst e2;simp only[if_true] at e;rcases hF1 x e with h1|h1
     ·exact .inl (.inr (.inr (.inr ⟨j,hj,h1⟩)))
     ·exact .inr h1
    ·simp only[if_neg e2] at e;exact .inl (.inr (.inr (.inr ⟨j,hj,e⟩)))
end
section
open Go.RowKit
open Go.ChangeMaps (setBlock)
variable {w w':World}{gb pb n win lim:Nat}{bl:Nat->Nat}{Fp:Nat->Nat->Prop}{Fn:Nat->Prop}{st:Nat->Pst}{pl:List Par}{nv:Value}{FG:Nat->Prop}
def GS(w w':World)(FG:Nat->Prop)(gb n win lim:Nat)(st:Nat->Pst)(pl:List Par):Prop:=Chg FG w w'/\GX w' (Plus FG w) gb n win lim st pl
theorem qdq(i:Nat):setSt st i (st i)=st:=by
 funext j;unfold setSt;split
 ·rename_i e
  rw[e]
 ·rfl
theorem GA.netted(g:GA w gb pb n win lim bl Fp Fn st pl nv)(hch:Chg (fun x=>Fn x\/x=gb) w w'){pl':List Par}{nv':Value}(nt:NetA w' (Plus Fn w) gb (sT pb n n) lim pl' nv'):GA w' gb pb n win lim bl Fp (fun x=>Plus Fn w x/\x<w'.heap.size) st pl' nv':=by
 have hs:=hch.size;have hgl:=g.net.blk.lt;have hpl:=g.ptr.lt;refine⟨nt.clip,(hch.block pb hpl (fun e=>?_)).trans g.ptr,fun i hi=>(g.proc i hi).kept fun x hx hxl=>hch.block x hxl (fun e=>?_),g.ok,g.dis,fun i x hi hx hx'=>?_,g.disg,⟨fun h=>?_,fun h=>?_⟩,g.gp,fun i x hi hx=>yg (g.bp i x hi hx) hs,fun x hx=>hx.2,fun i hi=>(g.cl i hi).kept (fun x hx=>hch.block x (g.bp i x hi hx) fun e=>?_) (fun x hx=>hch.block x (yg hx (g.cl i hi).low) fun e=>?_) hs,g.lg,fun x hx=>?_⟩
 ·rcases e with e|e
  ·exact g.ng.2 e
  ·exact g.gp e.symm
 ·rcases e with e|e
  ·exact g.disn i x hi hx e
  ·exact(g.disg i hi).1 (e▸hx)
 ·rcases hx'.1 with h1|h1
  ·exact g.disn i x hi hx h1
  ·have:=g.bp i x hi hx;omega
 ·rcases h.1 with h1|h1
  ·exact g.ng.1 h1
  ·omega
 ·rcases h.1 with h1|h1
  ·exact g.ng.2 h1
  ·omega
 ·rcases e with e|e
  ·exact g.disn i x hi hx e
  ·exact(g.disg i hi).1 (e▸hx)
 ·rcases e with e|e
  ·have:=g.ln x e;omega
  ·have:=g.lg.1;omega
 ·rcases hx.1 with h1|h1
  ·exact g.ln x h1
  ·have:=g.lg.1;omega
theorem GA.netted_whl(x:Nat)(h:Whl gb pb n Fp (fun x=>Plus Fn w x/\x<w'.heap.size) x):Plus (Whl gb pb n Fp Fn) w x:=by
 rcases h with h|h|h|h
 ·exact .inl (.inl h)
 ·exact .inl (.inr (.inl h))
 ·rcases h.1 with h1|h1
  ·exact .inl (.inr (.inr (.inl h1)))
  ·exact .inr h1
 ·exact .inl (.inr (.inr (.inr h)))
theorem GX.netted(g:GA w gb pb n win lim bl Fp Fn st pl nv)(hW:∀x,Whl gb pb n Fp Fn x->FG x)(hch:Chg (fun x=>Fn x\/x=gb) w w'){pl':List Par}{nv':Value}(nt:NetA w' (Plus Fn w) gb (sT pb n n) lim pl' nv'):GS w w' FG gb n win lim st pl':=by
 refine⟨hch.mono fun x _ h=>hW x ?_,pb,bl,Fp,_,nv',g.netted hch nt,fun x hx=>?_⟩
 ·rcases h with h|h
  ·exact .inr (.inr (.inl h))
  ·exact .inl h
 ·rcases GA.netted_whl x hx with h|h
  ·exact .inl (hW x h)
  ·exact .inr h
theorem GX.below(g:GX w FG gb n win lim st pl)(hb:Below w.heap.size w w'):GX w' FG gb n win lim st pl:=by
 obtain⟨pb,bl,Fp,Fn,nv,g,hW⟩:=g;exact⟨pb,bl,Fp,Fn,nv,g.below hb,hW⟩
theorem GX.wide(g:GX w FG gb n win lim st pl){F':Nat->Prop}(h:∀x,FG x->F' x):GX w F' gb n win lim st pl:=by
 obtain⟨pb,bl,Fp,Fn,nv,g,hW⟩:=g;exact⟨pb,bl,Fp,Fn,nv,g,fun x hx=>h x (hW x hx)⟩
theorem qfj(i:Nat)(pv:Option Addr)(c:Nat)(hc:w.cell? (aT gb 0)=some (.slice pv n c))(hi:i<n):Calls prog 64 #[pT gb 0,J i] w fun e w'=>e=.returned (.bool true)/\w'=w:=by
 have hk0:(0:Int)<=(i:Int):=by omega
 have hk1:(i:Int)<(n:Int):=by omega
 go_enter Tryz.func64,Tryz.ntmps64
 go_wp2_with fail
 go_ret;exact⟨rfl,rfl⟩
theorem qiv(g:GX w FG gb n win lim st pl):Calls prog 41 #[pT gb 0] w fun e w'=>e=.returned (J pl.length)/\w'=w:=by
 obtain⟨pb,bl,Fp,Fn,nv,g, -⟩:=g;have HC:Hid (Calls prog 72 _ _ _):=qj5 g.net;clear g;go_enter Tryz.func41,Tryz.ntmps41
 go_wp2_with fail
 refine HC.out.mono ?_;rintro e w2 ⟨rfl,rfl⟩;go_wp2_with fail
 go_ret;exact⟨rfl,rfl⟩
theorem GA.c0(g:GA w gb pb n win lim bl Fp Fn st pl nv):w.cell? (aT gb 0)=some (sT pb n n):=g.net.blk.cell 0 _ rfl
theorem GA.c0'(g:GA w gb pb n win lim bl Fp Fn st pl nv){i:Nat}(hi:i<n)(hch:Chg (Fp i) w w'):w'.cell? (aT gb 0)=some (sT pb n n):=(yq (a:=(aT gb 0)) (hch.block gb g.net.blk.lt (g.disg i hi).1)).trans g.c0
theorem GA.ptr'(g:GA w gb pb n win lim bl Fp Fn st pl nv){i:Nat}(hi:i<n)(hch:Chg (Fp i) w w'):w'.cell? (aT pb i)=some (.pointer (some ⟨bl i,0,none⟩)):=(yq (a:=(aT pb i)) (hch.block pb g.ptr.lt (g.disg i hi).2)).trans (g.ptr_cell hi)
theorem qo9(hn:n<=6)(gx:GX w FG gb n win lim st pl){i:Nat}(hi:i<n)(hl:pl.length<=10000):Calls prog 40 #[pT gb 0,J i] w fun e w'=>e=.returned (J 0)/\∃out,GS w w' FG gb n win lim st (sentAll lim pl (out.map par))/\Mo.Outs n i (st i).mp out:=by
 obtain⟨pb,bl,Fp,Fn,nv,g,hW⟩:=gx;have HH:Hid (Calls prog 64 _ _ _):=qfj i _ _ g.c0 hi;have HT:Hid (Calls prog 71 _ _ _):=tickC (qbb (win:=win) hi hn) (qab i n win) (g.proc i hi) (g.cl i hi) (g.ok i hi).1 (g.ok i hi).2 (by simp);have HC:Hid (∀w1 out,Chg (Fp i) w w1->PC w1 (Plus (Fp i) w) (bl i) (qre i n win) (st i).kn (st i).ms (st i).evs (out.map par)->Mo.Outs n i (st i).mp out->Calls prog 62 #[pT gb 0,.pointer (some ⟨bl i,0,none⟩)] w1 fun e w2=>e=.returned (.tuple #[])/\∃out,GS w w2 FG gb n win lim st (sentAll lim pl (out.map par))/\Mo.Outs n i (st i).mp out):=fun w1 out hch hp ho=>by
  have hol:(out.map par).length<=100000:=by
   have h1:(st i).ms.length<=126:=(g.proc i hi).len hn (g.ok i hi).1;have h2:out.length<=(n - 1) * (1+(st i).ms.length):=ho.len;have h3:(n - 1) * (1+(st i).ms.length)<=5 * 127:=Nat.mul_le_mul (by omega) (by omega);rw[yL];omega
  refine(g.carry hi hch hp (g.ok i hi) (by omega)).mono ?_;rintro e w2 ⟨rfl,hch2,Fp',Fn',nv',g2,hW2⟩;rw[qdq] at g2;exact⟨rfl,out,⟨hch2.mono fun x _ h=>hW x h,pb,bl,Fp',Fn',nv',g2,fun x hx=>(hW2 x hx).imp (hW x) id⟩,ho⟩
 have c0:=g.c0;have p0:=g.ptr_cell hi;have HC0:Hid (∀w1,Chg (Fp i) w w1->w1.cell? (aT gb 0)=some (sT pb n n)/\w1.cell? (aT pb i)=some (.pointer (some ⟨bl i,0,none⟩))):=fun w1 h=>⟨g.c0' hi h,g.ptr' hi h⟩;have hk0:(0:Int)<=(i:Int):=by omega
 have hk1:(i:Int)<(n:Int):=by omega
 clear g;go_enter Tryz.func40,Tryz.ntmps40
 go_wp2_with fail
 refine HH.out.mono ?_;rintro e w2 ⟨rfl,rfl⟩;go_wp2_with fail
 refine HT.out.mono ?_;rintro e w3 ⟨rfl,hch,out,hp,ho⟩;obtain⟨d0,d1⟩:=HC0.out w3 hch;have HC3:Hid (Calls prog 62 _ _ _):=HC.out w3 out hch hp ho;clear hch hp ho HC HC0 HT HH;go_wp2_with fail
 refine HC3.out.mono ?_;rintro e w4 ⟨rfl,hr⟩;have HR:Hid (∃out,GS w2 w4 FG gb n win lim st (sentAll lim pl (out.map par))/\Mo.Outs n i (st i).mp out):=hr;clear hr HC3;go_wp2_with fail
 go_ret;exact⟨rfl,HR.out⟩
theorem GS.trans{w1 w2:World}{st1 st2:Nat->Pst}{pl1 pl2:List Par}(a:GS w w1 FG gb n win lim st1 pl1)(b:GS w1 w2 (Plus FG w) gb n win lim st2 pl2):GS w w2 FG gb n win lim st2 pl2:=by
 have:=a.1.size;refine⟨a.1.trans b.1,b.2.wide fun x hx=>?_⟩;rcases hx with h|h
 ·exact h
 ·exact .inr (by omega)
theorem GS.below{w1 w2:World}{st1:Nat->Pst}{pl1:List Par}(a:GS w w1 FG gb n win lim st1 pl1)(b:Below w1.heap.size w1 w2):GS w w2 FG gb n win lim st1 pl1:=⟨a.1.trans (Chg.of_below b),a.2.below b⟩
theorem GS.refl(g:GX w FG gb n win lim st pl):GS w w FG gb n win lim st pl:=⟨Chg.refl _ _,g.wide Plus.sub⟩
theorem qpa(gx:GX w FG gb n win lim st pl)(hl:pl.length<=1000000)(k:Nat)(x:Par)(hk:pl[k]?=some x):Calls prog 80 #[pT gb 0,J k] w fun e w'=>e=.returned (J 0)/\GS w w' FG gb n win lim st (pl.eraseIdx k):=by
 obtain⟨pb,bl,Fp,Fn,nv,g,hW⟩:=gx;have HT:Hid (Calls prog 73 #[pT gb 1,J k] w fun e w'=>e=.returned (.tuple #[.agg #[J x.1,.string x.2],J 0])/\GS w w' FG gb n win lim st (pl.eraseIdx k)):=(qgh g.net hl k x hk).mono fun e w' h=>⟨h.1,by
  obtain⟨-,hch,nv',nt⟩:=h;exact GX.netted g hW hch (nt.wide Plus.sub)⟩
 clear g hW;go_enter Tryz.func80,Tryz.ntmps80
 go_wp2_with fail
 refine HT.out.mono ?_;rintro e w2 ⟨rfl,hr⟩;have HR:Hid (GS w w2 FG gb n win lim st (pl.eraseIdx k)):=hr;clear hr HT;go_wp2_with fail
 go_ret;exact⟨rfl,HR.out.below ((yi _ _).alloc (yb _) _)⟩
theorem qpb(gx:GX w FG gb n win lim st pl)(hl:pl.length<=1000000)(k:Nat)(x:Par)(hk:pl[k]?=some x):Calls prog 82 #[pT gb 0,J k] w fun e w'=>e=.returned (J 0)/\GS w w' FG gb n win lim st (sentTo lim pl x):=by
 obtain⟨pb,bl,Fp,Fn,nv,g,hW⟩:=gx;have HT:Hid (Calls prog 125 #[pT gb 1,J k] w fun e w'=>e=.returned (J 0)/\GS w w' FG gb n win lim st (sentTo lim pl x)):=(qlt g.net hl k x hk).mono fun e w' h=>⟨h.1,by
  obtain⟨-,hch,nv',nt⟩:=h;exact GX.netted g hW hch nt⟩
 clear g hW;go_enter Tryz.func82,Tryz.ntmps82
 go_wp2_with fail
 refine HT.out.mono ?_;rintro e w2 ⟨rfl,hr⟩;have HR:Hid (GS w w2 FG gb n win lim st (sentTo lim pl x)):=hr;clear hr HT;go_wp2_with fail
 go_ret;exact⟨rfl,HR.out⟩
theorem qj7(gx:GX w FG gb n win lim st pl)(k:Nat)(x:Par)(hk:pl[k]?=some x)(i m:Nat)(hi:i<x.2.size)(hm1:1<=m)(hm2:m<=255)(hsz:x.2.size<=1000000):Calls prog 85 #[pT gb 0,J k,J i,J m] w fun e w'=>e=.returned (J 0)/\GS w w' FG gb n win lim st (pl.set k (x.1,turned x.2 i m)):=by
 obtain⟨pb,bl,Fp,Fn,nv,g,hW⟩:=gx;have HT:Hid (Calls prog 127 #[pT gb 1,J k,J i,J m] w fun e w'=>e=.returned (J 0)/\GS w w' FG gb n win lim st (pl.set k (x.1,turned x.2 i m))):=(qhq g.net k x hk i m hi hm1 hm2 hsz).mono fun e w' h=>⟨h.1,by
  obtain⟨-,hch,nt⟩:=h;exact GX.netted g hW (hch.mono fun x _ h=>.inl h) (nt.wide Plus.sub)⟩
 clear g hW;go_enter Tryz.func85,Tryz.ntmps85
 go_wp2_with fail
 refine HT.out.mono ?_;rintro e w2 ⟨rfl,hr⟩;have HR:Hid (GS w w2 FG gb n win lim st (pl.set k (x.1,turned x.2 i m))):=hr;clear hr HT;go_wp2_with fail
 go_ret;exact⟨rfl,HR.out⟩
theorem qnq(gx:GX w FG gb n win lim st pl)(k:Nat)(x:Par)(hk:pl[k]?=some x):Calls prog 96 #[pT gb 0,J k] w fun e w'=>e=.returned (.tuple #[.string x.2,J 0])/\w'=w:=by
 obtain⟨pb,bl,Fp,Fn,nv,g,hW⟩:=gx;have HT:Hid (Calls prog 135 _ _ _):=qj6 g.net k x hk;clear g hW;go_enter Tryz.func96,Tryz.ntmps96
 go_wp2_with fail
 refine HT.out.mono ?_;rintro e w2 ⟨rfl,rfl⟩;go_wp2_with fail
 go_ret2
 exact⟨rfl,rfl⟩
end
end Go.Proofs.YtoklolfaemhfnaaGreatDoor
