import Derived.Test.YtoklolfaemhfnaaGreatDoorZbz
import Derived.Test.YtoklolfaemhfnaaGreatDoorZcc
set_option maxRecDepth 100000
set_option maxHeartbeats 8000000
open Go.Proofs.Tryz (prog)
namespace Go.Proofs.YtoklolfaemhfnaaGreatDoor
section
open Go.RowKit
open Go.Cr Go.Conc
open Go.Pm (Perm Loose Among Sup Ext obj_comp pm_comp)
def Wkd(n win k b0:Nat)(fs:List Codec.Frame)(s:Pst)(D:Nat->Prop):Fact:=fun O wa=>
 ∃ (ρ : Perm) (W : World) (b : Nat) (F : Nat -> Prop) (s' : Pst) (out : List Codec.Frame), Loose fam ρ W wa /\ Go.Pm.Shut fam W /\ Among fam ρ W.heap.size O /\ (∀ x, D x -> ∃ r, 7 <= r /\ r < W.heap.size /\ ρ.f r = x) /\ ρ.f b = b0 /\ (∀ x, F x -> 7 <= x /\ x < W.heap.size) /\
   PX W F b (qre k n win) s'.kn s'.ms s'.evs (out.map par)/\Mo.Comes n k fs s.mp s'.mp/\Mo.Outs n k s'.mp out/\Ok (qre k n win) s'.kn s'.ms s'.evs/\∀m∈s'.ms,Codec.msgFits m=true
theorem Wkd.stable{n win k b0:Nat}{fs:List Codec.Frame}{s:Pst}{D K:Nat->Prop}(O:Nat->Prop)(w wB:World)(hb:∀b,O b\/K b->wB.heap[b]?=w.heap[b]?)(hsz:w.heap.size<=wB.heap.size)(hos:wB.eo=w.eo)(h:Wkd n win k b0 fs s D O w):Wkd n win k b0 fs s D O wB:=by
 obtain⟨ρ,W,b,F,s',out,h1,h2,h3,h4⟩:=h;exact⟨ρ,W,b,F,s',out,Loose.move h1 (fun r h10 hr=>hb _ (.inl (h3 r h10 hr))) hsz (congrArg Prod.fst hos),h2,h3,h4⟩
section
variable {n win k b base:Nat}{π:Perm}{w wa wB:World}{F:Nat->Prop}{s:Pst}{v:Value}{fs:List Codec.Frame}{R:Nat->Prop}{A:World->Prop}
def Fw(F:Nat->Prop)(v:Value):Nat->Prop:=fun r=>F r\/v.ownBlock=some r
theorem Fw.cl(c:Cl w F){m:Nat}{xs:List Value}(hrow:w.ownsRow base 9 1 v m xs)(hbase:7<=base)(hflat:∀g cur e fz,v.ownBlock=some g->w.heap[g]?=some (.cells cur e fz)->AllStr cur):Cl w (Fw F v):=by
 cases hv:v.ownBlock with
 | none =>
   have e:Fw F v=F:=by
    funext r;apply propext;unfold Fw;rw[hv];exact⟨fun h=>h.elim id (fun h=>nomatch h),Or.inl⟩
   rw[e];exact c
 | some g =>
   have e:Fw F v=fun x=>F x\/x=g:=by
    funext r;apply propext;unfold Fw;rw[hv];exact⟨fun h=>h.imp id fun h=>by injection h with h;exact h.symm,fun h=>h.imp id fun h=>by rw[h]⟩
   rw[e];rcases hrow.2 with ⟨h0, -⟩|⟨g1,cap,cur,h0,hge,hc, -⟩
   ·rw[h0] at hv;cases hv
   ·have e1:g1=g:=by
     rw[h0] at hv;simpa[Value.ownBlock] using hv
    subst e1;refine c.add (yr hbase hge) hc fun u hu ρ=>?_;obtain⟨s,rfl⟩:=hflat g1 cur _ _ hv hc u hu;simp
theorem worker(hn:n<=6)(hkn:k<n)(hπ:Loose fam π w wa)(p:PX w F b (qre k n win) s.kn s.ms s.evs [])(c:Cl w F)(o:Ok (qre k n win) s.kn s.ms s.evs)(hmf:∀m∈s.ms,Codec.msgFits m=true)
 (hfs:∀f∈fs,Fit n k f) (hfl:fs.length<=100000) (hrow:w.ownsRow base 9 1 v fs.length (fs.map fun f=>Value.string ⟨(Codec.encB f).toArray⟩)) (hbase:7<=base) (hflat:∀g cur e fz,v.ownBlock=some g->w.heap[g]?=some (.cells cur e fz)->AllStr cur) (hdis:∀g,v.ownBlock=some g->¬F g)
 (hR:∀b,b<2->R b) (hta:Tabs wB) (hsame:∀r,Fw F v r->wB.heap[π.f r]?=wa.heap[π.f r]?) (hsz:wa.heap.size<=wB.heap.size) (hos:wB.eo=wa.eo) :
 CallWay prog false R A XNone 101 #[.pointer (some ⟨π.f b,0,none⟩),v.pm π] (fun x=>∃r,Fw F v r/\π.f r=x) wB fun _=>Wkd n win k (π.f b) fs s (fun x=>∃r,Fw F v r/\π.f r=x):=by
 have cw:Cl w (Fw F v):=Fw.cl c hrow hbase hflat
 obtain⟨ws,πs,hL,hS,hT, -,hto,hfrom,hal, -⟩:=cw.small;have hc1:Loose fam (π.comp πs) ws wB:=Loose.move (Loose.comp hπ hL) (fun r h10 hr=>hsame (πs.f r) (hto r h10 hr)) hsz (congrArg Prod.fst hos);have p0:PX ws (Img πs.inv F) (πs.i b) (qre k n win) s.kn s.ms s.evs []:=p.along (fun r o hr ho=>hal r o (.inl hr) ho) (qab k n win);have hib:=hfrom b (.inl p.foot);have hF0:∀x,Img πs.inv F x->7<=x/\x<ws.heap.size:=fun x hx=>by
  have h1:=hfrom _ (.inl (show F (πs.f x) from hx));rwa [πs.if_] at h1
 obtain⟨ao,ac,hvf⟩:∃ao ac,v.pm πs.inv=.slice ao fs.length ac:=by
  obtain⟨ao,ac,h0⟩:=qp hrow;rw[h0];exact⟨ao.map (Addr.pm πs.inv),ac,by simp⟩
 have hcell:∀i f,fs[i]?=some f->∃g,ao=some ⟨g,0,none⟩/\¬Img πs.inv F g/\ws.cell? (aT g i)=some (.string ⟨(Codec.encB f).toArray⟩):=fun i f hi=>by
  have hil:=(ym.1 hi).1;rcases hrow.2 with ⟨-,h0⟩|⟨g,cap,cur,h0, -,hg,hlc, -,hcs,htk⟩
  ·omega
  ·have hob:v.ownBlock=some g:=by rw[h0];rfl
   rw[h0] at hvf;simp only[Go.Pm.pm_slice,yp,Value.slice.injEq] at hvf;refine⟨πs.i g,hvf.1.symm,fun h=>hdis g hob ?_,?_⟩
   ·have h1:F (πs.f (πs.i g)):=h;rwa [πs.fi] at h1
   ·have h1:=hal g _ (.inr hob) hg;have h2:BlkAt ws (πs.i g) 9 (cur.map (Value.pm πs.inv)):=h1;refine h2.cell i _ ?_;have h3:(cur.toList.take (fs.length * 1))[i]?=some (.string ⟨(Codec.encB f).toArray⟩):=by
     rw[htk,yZ,hi];rfl
    rw[List.getElem?_take_of_lt (by omega)] at h3;rw[yw,<-Array.getElem?_toList,h3];simp
 intro Stop cf rest hkont;have hargs:(#[Value.pointer (some ⟨πs.i b,0,none⟩),v.pm πs.inv].map (Value.pm (π.comp πs)))=#[.pointer (some ⟨π.f b,0,none⟩),v.pm π]:=by
  have e1:(v.pm πs.inv).pm (π.comp πs)=v.pm π:=by
   rw[<-pm_comp π πs,pm_comp πs πs.inv,Go.Pm.pm_id _ (Perm.idle_inv πs)]
  have e2:(π.comp πs).f (πs.i b)=π.f b:=by
   show π.f (πs.f (πs.i b))=π.f b;rw[πs.fi]
  simp[e1,Addr.pm,e2]
 rw[<-hargs];refine Go.Pm.way_call progOk leafLaw hR hc1 hS hT hta (fun r h10 hr=>⟨πs.f r,hto r h10 hr,rfl⟩) (f:=101) rfl rfl (fun u hu=>?_) (R:=fun e w'=>e=.returned (.tuple #[])/\∃kn' ms' evs' out,PX w' (Plus (Img πs.inv F) ws) (πs.i b) (qre k n win) kn' ms' evs' (List.map par out)/\Mo.Comes n k fs s.mp (mp kn' ms' evs')/\Mo.Outs n k (mp kn' ms' evs') out/\Ok (qre k n win) kn' ms' evs'/\∀m∈ms',Codec.msgFits m=true) (fun τ _=>?_) (fun e w' h=>⟨_,h.1⟩) fun v' w' π' wa' O' hRr hl hs _ _ ham hszz hsm _=>?_
 ·intro σ hσ;simp only[yag,yF,yU,or_false] at hu;rcases hu with rfl|rfl
  ·have:σ.f (πs.i b)=πs.i b:=hσ.1 _ hib.1 hib.2;simp[Addr.pm,this]
  ·rcases hrow.2 with ⟨h0, -⟩|⟨g,cap,cur,h0, -⟩
   ·rw[h0];simp
   ·have hg:=hfrom g (.inr (by rw[h0];rfl));have:σ.f (πs.i g)=πs.i g:=hσ.1 _ hg.1 hg.2;rw[h0];simp[Addr.pm,Perm.inv,this]
 ·rw[hvf];refine(qqq (qbb (win:=win) hkn hn) (p0.kept (w':=ws.tp τ) fun _ _ _=>rfl) o hmf (by simp) fs hfs hfl ao ac hcell).mono ?_;rintro e w' ⟨rfl, -,kn',ms',evs',out,h1,h2⟩;exact⟨rfl,kn',ms',evs',out,h1,h2⟩
 ·obtain⟨-,kn',ms',evs',out,hp,hcm,hou,hok,hmf'⟩:=hRr;refine hkont _ O' wa' ⟨π',w',πs.i b,fun x=>Plus (Img πs.inv F) ws x/\x<w'.heap.size,⟨kn',ms',evs'⟩,out,hl,hs,ham,fun x hx=>?_,?_,fun x hx=>⟨?_,hx.2⟩,hp.clip,hcm,hou,hok,hmf'⟩
  ·obtain⟨r,hr,rfl⟩:=hx;have h1:=hfrom r hr;refine⟨πs.i r,h1.1,yg h1.2 hszz,?_⟩;rw[hsm _ h1.2];show π.f (πs.f (πs.i r))=π.f r;rw[πs.fi]
  ·rw[hsm _ hib.2];show π.f (πs.f (πs.i b))=π.f b;rw[πs.fi]
  ·rcases hx.1 with h1|h1
   ·exact(hF0 x h1).1
   ·have:7<=ws.heap.size:=hL.low;omega
end
end
section
open Go.RowKit
open Go.Cr Go.Conc
open Go.Pm (Perm Loose Among merge)
variable {n win gb pb:Nat}{bl:Nat->Nat}{Fp Bw Os:Nat->Nat->Prop}{st:Nat->Pst}{π:Perm}{w wa wa':World}{fs:Nat->List Codec.Frame}
theorem regroup(h:Loose fam π w wa)(hs:Go.Pm.Shut fam w)(hta:Tabs wa')(g:GA w gb pb n win 4000 bl Fp (fun _=>False) st [] (sN))
 (hBg:∀i,i<n->¬Bw i gb/\¬Bw i pb) (hsz:wa.heap.size<=wa'.heap.size)
 (hkept:∀r,7<=r->r<w.heap.size->(∀i,i<n->¬Bw i r)->wa'.heap[π.f r]?=wa.heap[π.f r]?)
 (hq:∀i,i<n->Wkd n win i (π.f (bl i)) (fs i) (st i) (fun x=>∃r,Bw i r/\π.f r=x) (Os i) wa') (hOd:∀i k,i<n->k<n->i≠k->∀b,Os i b->¬Os k b)
 (hOk:∀i,i<n->∀r,7<=r->r<w.heap.size->(∀j,j<n->¬Bw j r)->¬Os i (π.f r)) :
 ∃ (w' : World) (π' : Perm) (Fp' : Nat -> Nat -> Prop) (st' : Nat -> Pst) (outs : Nat -> List Codec.Frame), Loose fam π' w' wa' /\ Go.Pm.Shut fam w' /\ Tabs w' /\ w.heap.size <= w'.heap.size /\ (∀ r, r < w.heap.size -> π'.f r = π.f r) /\ (∀ r, 7 <= r -> r < w.heap.size -> (∀ i, i < n -> ¬ Bw i r) -> w'.heap[r]? = w.heap[r]?) /\
   (∀r,7<=r->r<w'.heap.size->(r<w.heap.size/\∀i,i<n->¬Bw i r)\/∃i,i<n/\Os i (π'.f r))/\GB w' gb pb n win 4000 bl Fp' (fun _=>False) st' (fun i=>(outs i).map par) [] (sN)/\(∀i x,i<n->Fp' i x->Bw i x\/w.heap.size<=x)/\
   ∀i,i<n->Mo.Comes n i (fs i) (st i).mp (st' i).mp/\Mo.Outs n i (st' i).mp (outs i):=by
 have hex:∀i,∃t:Perm × World × Nat × (Nat->Prop) × Pst × List Codec.Frame,i<n->Loose fam t.1 t.2.1 wa'/\Go.Pm.Shut fam t.2.1/\Among fam t.1 t.2.1.heap.size (Os i)/\(∀x,(∃r,Bw i r/\π.f r=x)->∃r,7<=r/\r<t.2.1.heap.size/\t.1.f r=x)/\t.1.f t.2.2.1=π.f (bl i)/\(∀x,t.2.2.2.1 x->7<=x/\x<t.2.1.heap.size)/\
  PX t.2.1 t.2.2.2.1 t.2.2.1 (qre i n win) t.2.2.2.2.1.kn t.2.2.2.2.1.ms t.2.2.2.2.1.evs (t.2.2.2.2.2.map par)/\Mo.Comes n i (fs i) (st i).mp t.2.2.2.2.1.mp/\Mo.Outs n i t.2.2.2.2.1.mp t.2.2.2.2.2/\Ok (qre i n win) t.2.2.2.2.1.kn t.2.2.2.2.1.ms t.2.2.2.2.1.evs/\∀m∈t.2.2.2.2.1.ms,Codec.msgFits m=true:=fun i=>by
  by_cases hi:i<n
  ·obtain⟨ρ,W,b,F,s',out,hh⟩:=hq i hi;exact⟨(ρ,W,b,F,s',out),fun _=>hh⟩
  ·exact⟨(Perm.id,w,0,fun _=>False,st i,[]),fun h=>absurd h hi⟩
 obtain⟨T,hT⟩:=Classical.axiomOfChoice hex;obtain⟨ρ,hρ⟩:∃ρ:Nat->Perm,ρ=fun i=>(T i).1:=⟨_,rfl⟩;obtain⟨W,hW⟩:∃W:Nat->World,W=fun i=>(T i).2.1:=⟨_,rfl⟩;obtain⟨b,hb⟩:∃b:Nat->Nat,b=fun i=>(T i).2.2.1:=⟨_,rfl⟩;obtain⟨F,hF⟩:∃F:Nat->Nat->Prop,F=fun i=>(T i).2.2.2.1:=⟨_,rfl⟩;obtain⟨st',hst⟩:∃s:Nat->Pst,s=fun i=>(T i).2.2.2.2.1:=⟨_,rfl⟩;obtain⟨outs,hout⟩:∃o:Nat->List Codec.Frame,o=fun i=>(T i).2.2.2.2.2:=⟨_,rfl⟩;have H:∀i,i<n->Loose fam (ρ i) (W i) wa'/\Go.Pm.Shut fam (W i)/\Among fam (ρ i) (W i).heap.size (Os i)/\(∀x,(∃r,Bw i r/\π.f r=x)->∃r,7<=r/\r<(W i).heap.size/\(ρ i).f r=x)/\(ρ i).f (b i)=π.f (bl i)/\(∀x,F i x->7<=x/\x<(W i).heap.size)/\
  PX (W i) (F i) (b i) (qre i n win) (st' i).kn (st' i).ms (st' i).evs ((outs i).map par)/\Mo.Comes n i (fs i) (st i).mp (st' i).mp/\Mo.Outs n i (st' i).mp (outs i)/\Ok (qre i n win) (st' i).kn (st' i).ms (st' i).evs/\∀m∈(st' i).ms,Codec.msgFits m=true:=by
  subst hρ hW hb hF hst hout;exact hT
 clear hT hρ hW hb hF hst hout hex hq;clear T;obtain⟨w',π',hLo,hSh,hge,hπ,hlow,hK,hpart,hall, -⟩:=merge (F:=fam) h hs (yr h.lowa hsz) (n:=n) (W:=W) (Ps:=ρ) (fun i hi=>⟨(H i hi).1,(H i hi).2.1⟩) (Kept:=fun r=>∀i,i<n->¬Bw i r) (fun r o hl hkr hr=>(hkept r hl (yk.1 hr).1 hkr).trans (h.obj r o hl hr)) (fun r hl hr hn=>by
  have:∃i,i<n/\Bw i r:=Classical.byContradiction fun hno=>hn fun i hi hb=>hno ⟨i,hi,hb⟩;obtain⟨i,hi,hbr⟩:=this;obtain⟨k,h1,h2,h3⟩:=(H i hi).2.2.2.1 _ ⟨r,hbr,rfl⟩;exact⟨i,k,hi,h1,h2,h3⟩)
 have ht':Tabs w':=qae hta fun x hx=>hlow x hx;have hi10:∀r,r<7->π'.i r=r:=fun r hr=>by
  have:=hLo.ids r hr;rw[<-this,π'.if_,this]
 have hLi:∀i,i<n->Loose fam (π'.inv.comp (ρ i)) (W i) w':=fun i hi=>by
  refine⟨hpart i hi,fun r hr=>?_,(H i hi).1.low,hLo.low,hLo.os.symm.trans (H i hi).1.os,fun f=>?_,?_⟩
  ·show π'.i ((ρ i).f r)=r;rw[(H i hi).1.ids r hr];exact hi10 r hr
  ·show π'.j ((ρ i).g f)=f;rw[(H i hi).1.g];have:=π'.jg f;rwa [hLo.g] at this
  ·show (π'.b != (ρ i).b)=false;rw[hLo.b,(H i hi).1.b];rfl
 have hgk:(∀i,i<n->¬Bw i gb)/\∀i,i<n->¬Bw i pb:=⟨fun i hi=>(hBg i hi).1,fun i hi=>(hBg i hi).2⟩;have hgl:=g.net.blk.lt;have hpl:=g.ptr.lt;have hcl:∀i,i<n->Cl w' (fun x=>∃r,7<=r/\r<(W i).heap.size/\(π'.inv.comp (ρ i)).f r=x):=fun i hi=>Cl.of_loose (hLi i hi) (H i hi).2.1 ht';have hin:∀i x,i<n->(∃r,7<=r/\r<(W i).heap.size/\(π'.inv.comp (ρ i)).f r=x)->Os i (π'.f x):=fun i x hi ⟨r,h1,h2,h3⟩=>by
  have h4:π'.f x=(ρ i).f r:=by
   rw[<-h3];exact π'.fi _
  rw[h4];exact(H i hi).2.2.1 r h1 h2
 refine⟨w',π',fun i x=>∃r,7<=r/\r<(W i).heap.size/\(π'.inv.comp (ρ i)).f r=x,st',outs,hLo,hSh,ht',hge,hπ,hK,fun r h1 h2=>?_,⟨⟨(hK gb g.lg.1 hgl hgk.1).trans g.net.blk,y9 _ _ _ _,fun x hx=>by cases hx⟩,(hK pb g.lg.2 hpl hgk.2).trans g.ptr,fun i hi=>?_,fun i hi=>(H i hi).2.2.2.2.2.2.2.2.2,fun i j x hi hj hx hy=>?_,fun i x hi hx h=>h,fun i hi=>⟨fun hx=>?_,fun hx=>?_⟩,⟨id,id⟩,g.gp,fun i x hi hx=>(hcl i hi).lt hx,fun x hx=>hx.elim,hcl,g.lg,fun x hx=>hx.elim⟩,fun i x hi hx=>?_,fun i hi=>⟨(H i hi).2.2.2.2.2.2.2.1,(H i hi).2.2.2.2.2.2.2.2.1⟩⟩
 ·rcases hall r h1 h2 with h3|⟨i,k,hi,h3,h4,h5⟩
  ·exact .inl h3
  ·exact .inr ⟨i,hi,by rw[<-h5];exact(H i hi).2.2.1 k h3 h4⟩
 ·obtain⟨-, -, -, -,hb,hFl,hp, -⟩:=H i hi;have hbl:bl i<w.heap.size:=by
   obtain⟨l,hlm,kb,mb,rbs,es,clk,ev,sv,p⟩:=g.proc i hi;exact p.blk.lt
  have:=hp.along (ρ:=π'.inv.comp (ρ i)) (w2:=w') (fun r o hr ho=>hpart i hi r o (hFl r hr).1 ho) (qab i n win);have e:(π'.inv.comp (ρ i)).f (b i)=bl i:=by
   show π'.i ((ρ i).f (b i))=bl i;rw[hb,<-hπ _ hbl,π'.if_]
  rw[e] at this;exact this.wide fun x hx=>⟨(π'.inv.comp (ρ i)).i x,(hFl _ hx).1,(hFl _ hx).2,(π'.inv.comp (ρ i)).fi x⟩
 ·exact Classical.byContradiction fun hne=>hOd i j hi hj hne _ (hin i x hi hx) (hin j x hj hy)
 ·have h1:=hin i gb hi hx;rw[hπ gb hgl] at h1;exact hOk i hi gb g.lg.1 hgl hgk.1 h1
 ·have h1:=hin i pb hi hx;rw[hπ pb hpl] at h1;exact hOk i hi pb g.lg.2 hpl hgk.2 h1
 ·rcases ya3 x w.heap.size with hlt|hge'
  ·left;have h1:=hin i x hi hx;rw[hπ x hlt] at h1;have h10:=((hcl i hi).obj x hx).1;apply Classical.byContradiction;intro hno;by_cases hany:∃j,j<n/\Bw j x
   ·obtain⟨j,hj,hbj⟩:=hany;have hne:i≠j:=fun e=>hno (e▸hbj);obtain⟨r,h2,h3,h4⟩:=(H j hj).2.2.2.1 _ ⟨x,hbj,rfl⟩;have h5:=(H j hj).2.2.1 r h2 h3;rw[h4] at h5;exact hOd i j hi hj hne _ h1 h5
   ·exact hOk i hi x h10 hlt (fun j hj hb=>hany ⟨j,hj,hb⟩) h1
  ·exact .inr hge'
end
section
open Go.RowKit
open Go.Cr Go.Conc
open Go.Pm (Perm Loose Among Sup Ext Rely)
structure Tk (w:World) (FG:Nat->Prop) (gb pb n win:Nat) (bl:Nat->Nat) (Fp:Nat->Nat->Prop) (st:Nat->Pst) (pl:List Par) (nv:Value):Prop where
 ga:GA w gb pb n win 4000 bl Fp (fun _=>False) st [] (sN)
 whl:∀x,Whl gb pb n Fp (fun _=>False) x->FG x
 row:w.ownsRow 0 111 2 nv pl.length (parCells pl)
 foot:∀g,nv.ownBlock=some g->FG g/\7<=g/\g≠gb/\g≠pb/\∀i,i<n->¬Fp i g
section
variable {w w':World}{FG:Nat->Prop}{gb pb n win:Nat}{bl:Nat->Nat}{Fp:Nat->Nat->Prop}{st:Nat->Pst}{pl:List Par}{nv:Value}
theorem qn4(g:GX w FG gb n win 4000 st pl):∃pb bl Fp nv,Calls prog 59 #[pT gb 1] w fun e w'=>e=.returned nv/\w'.heap.size=w.heap.size/\(∀k,k≠gb->w'.heap[k]?=w.heap[k]?)/\Tk w' FG gb pb n win bl Fp st pl nv:=by
 obtain⟨pb,bl,Fp,Fn,nv,g,hW⟩:=g;refine⟨pb,bl,Fp,nv,(qhn g.net).mono ?_⟩;rintro e w' ⟨rfl,rfl⟩;have hOn:=(Only.refl gb w).set 2 (Value.slice none 0 0);have hb:∀k,k≠gb->(w.setCell ⟨gb,2,none⟩ (sN)).heap[k]?=w.heap[k]?:=fun k hk=>hOn.block k hk;have hsz:=hOn.size;refine⟨rfl,hsz,hb,⟨⟨⟨g.net.blk.set 2 _,y9 _ _ _ _,fun x hx=>by cases hx⟩,(hb pb (fun e=>g.gp e.symm)).trans g.ptr,fun i hi=>(g.proc i hi).kept fun x hx _=>hb x (fun e=>(g.disg i hi).1 (e▸hx)),g.ok,g.dis,fun i x hi hx h=>h,g.disg,⟨id,id⟩,g.gp,fun i x hi hx=>by rw[hsz];exact g.bp i x hi hx,fun x hx=>hx.elim,fun i hi=>(g.cl i hi).kept (fun x hx=>hb x (fun e=>(g.disg i hi).1 (e▸hx))) (fun x hx=>hb x (fun e=>by have:=g.lg.1;omega)) (by rw[hsz];exact yb _),g.lg,fun x hx=>hx.elim⟩,fun x hx=>hW x ?_,?_,fun x hx=>?_⟩⟩
 ·rcases hx with h|h|h|h
  ·exact .inl h
  ·exact .inr (.inl h)
  ·exact h.elim
  ·exact .inr (.inr (.inr h))
 ·exact qd g.net.row.row fun x hx=>hb x (fun e=>g.ng.1 (e▸g.net.row.foot x hx))
 ·have hf:=g.net.row.foot x hx;exact⟨hW x (.inr (.inr (.inl hf))),g.ln x hf,fun e=>g.ng.1 (e▸hf),fun e=>g.ng.2 (e▸hf),fun i hi h=>g.disn i x hi h hf⟩
theorem Tk.below(t:Tk w FG gb pb n win bl Fp st pl nv)(hb:∀k,k<w.heap.size->w'.heap[k]?=w.heap[k]?)(hsz:w.heap.size<=w'.heap.size):Tk w' FG gb pb n win bl Fp st pl nv:=by
 have g:=t.ga;have hl:7<=w.heap.size:=yr g.lg.1 (Nat.le_of_lt g.net.blk.lt);refine⟨⟨⟨(hb gb g.net.blk.lt).trans g.net.blk,g.net.row.kept fun x hx=>hb x (g.net.row.lt hx)⟩,(hb pb g.ptr.lt).trans g.ptr,fun i hi=>(g.proc i hi).kept fun x _ hx=>hb x hx,g.ok,g.dis,g.disn,g.disg,g.ng,g.gp,fun i x hi hx=>yg (g.bp i x hi hx) hsz,fun x hx=>hx.elim,fun i hi=>(g.cl i hi).kept (fun x hx=>hb x ((g.cl i hi).lt hx)) (fun x hx=>hb x (by omega)) hsz,g.lg,g.ln⟩,t.whl,qd t.row fun x hx=>hb x (t.row.lt x hx).2,t.foot⟩
theorem qpo(t:Tk w FG gb pb n win bl Fp st pl nv)(hn:n<=6)(hj:Jn n st pl):Calls prog 61 #[nv,J n] w fun e w'=>e=.returned (sT w.heap.size n n)/\(∀k,k<w.heap.size->w'.heap[k]?=w.heap[k]?)/\w.heap.size<=w'.heap.size/\w'.os=w.os/\∃vs,Shr w' w.heap.size w.heap.size n vs (forOf pl):=by
 obtain⟨ao,vc,hv⟩:=qp t.row;have hr:Row w (fun _=>True) 111 2 (.slice ao pl.length vc) pl.length (parCells pl):=⟨hv▸t.row,fun _ _=>trivial⟩;obtain⟨G,fl,hm,hpl,hg,hl⟩:=hj;rw[hv];refine(qnt n hn ao vc hr (by omega) (fun x hx=>?_)).mono ?_
 ·rw[hpl] at hx;obtain⟨f,hf,rfl⟩:=yW.1 hx;obtain⟨j,q,hc, -⟩:=(hg f hf).calm;exact⟨q,hc.qn,hc.dst⟩
 ·rintro e w' ⟨rfl,hb,hvs⟩;exact⟨rfl,fun k hk=>hb.block k hk,hb.size,hb.os,hvs⟩
end
def comeFor(fl:List Codec.Frame)(j:Nat):List Codec.Frame:=fl.filter fun f=>decide (f.dst=(j:Int))
theorem qn5(fl:List Codec.Frame)(j:Nat):forOf (fl.map par) j=(comeFor fl j).map fun f=>⟨(Codec.encB f).toArray⟩:=by
 unfold forOf comeFor;rw[List.filter_map,yaD];rfl
theorem qkc{n:Nat}(hn:n<=6){G:List Codec.Msg}{P:Nat->Mo.MP}(hm:Mo.MI n G P){fl:List Codec.Frame}(hg:∀f∈fl,Mo.Gen n G P f)(j:Nat):∀f∈comeFor fl j,Fit n j f:=by
 intro f hf;obtain⟨h1,h2⟩:=yM.1 hf;obtain⟨k,q,hc, -⟩:=(hg f h1).calm;have e:q=j:=by
  have h3:f.dst=(j:Int):=by simpa using h2
  have:=hc.dst;omega
 subst e;exact⟨qp0 hn hm (hg f h1),k,hc⟩
def Mr(n win P0 G0 PB:Nat)(BL:Nat->Nat)(Q:(Nat->Pst)->(Nat->List Par)->List Par->Prop)(L:List (Nat × Obj))(O:Nat->Prop)(wa:World):Prop:=
 ∃(π:Perm) (w:World) (pp gb pb:Nat) (bl:Nat->Nat) (Fp:Nat->Nat->Prop) (Fn:Nat->Prop) (st:Nat->Pst) (snt:Nat->List Par) (pl:List Par) (nv:Value),Gh π w wa O/\Sides L O π w.heap.size wa/\π.f pp=P0/\π.f gb=G0/\π.f pb=PB/\(∀i,i<n->π.f (bl i)=BL i)/\7<=pp/\PlAt w pp gb n win/\¬Whl gb pb n Fp Fn pp/\GB w gb pb n win 4000 bl Fp Fn st snt pl nv/\Q st snt pl
section
variable {n win P0 G0 PB:Nat}{BL:Nat->Nat}{Q Q':(Nat->Pst)->(Nat->List Par)->List Par->Prop}{L:List (Nat × Obj)}{O K:Nat->Prop}{A:World->Prop}{X:Event->Prop}{Stop:(Nat->Prop)->Goroutine->World->Prop}{wa waB:World}
theorem Mr.rely(h:Mr n win P0 G0 PB BL Q L O wa)(hK:∀b,b<2->K b)(hr:Rely O K A wa waB):Mr n win P0 G0 PB BL Q L O waB:=by
 obtain⟨π,w,pp,gb,pb,bl,Fp,Fn,st,snt,pl,nv,h1,h2,h3⟩:=h;exact⟨π,w,pp,gb,pb,bl,Fp,Fn,st,snt,pl,nv,h1.rely hK hr,h2.rely hr,h3⟩
theorem Mr.cells(h:Mr n win P0 G0 PB BL Q L O wa):O G0/\O PB/\wa.cell? (aT G0 0)=some (sT PB n n)/\∀i,i<n->wa.cell? (aT PB i)=some (.pointer (some ⟨BL i,0,none⟩)):=by
 obtain⟨π,w,pp,gb,pb,bl,Fp,Fn,st,snt,pl,nv,h1,h2, -,rfl,rfl,hbl, -, -, -,g, -⟩:=h;have c0:=h1.cell g.lg.1 (g.net.blk.cell 0 _ rfl);refine⟨c0.2,h1.among pb g.lg.2 g.ptr.lt,by simpa[Addr.pm] using c0.1,fun i hi=>?_⟩;have c1:=h1.cell g.lg.2 (g.ptr.cell i (.pointer (some ⟨bl i,0,none⟩)) (by simp[hi]));have:=c1.1;simp only[Go.Pm.pm_pointer,yp,Addr.pm,hbl i hi] at this;exact this
theorem Mr.carry(h:Mr n win P0 G0 PB BL Q L O wa)(hK:∀b,b<2->K b){k:Nat}(hk:k<n)(hl:∀st snt pl,Q st snt pl->pl.length+(snt k).length<=1000000){c:Frame}{rest:List Frame}
 (hgo:∀O' wa',Mr n win P0 G0 PB BL (fun st snt pl=>∃snt0 pl0,Q st snt0 pl0/\snt=(fun j=>if j=k then [] else snt0 j)/\pl=sentAll 4000 pl0 (snt0 k)) L O' wa'->Go.Pm.Way prog true K A X Stop O' (G (c.finish (.tuple #[])) rest) wa') :
 Go.Pm.Way prog true K A X Stop O (G (Frame.enter prog 62 #[pT G0 0,.pointer (some ⟨BL k,0,none⟩)] .normal) (c::rest)) wa:=by
 obtain⟨π,w,pp,gb,pb,bl,Fp,Fn,st,snt,pl,nv,h1,h2,rfl,rfl,rfl,hbl,h5,h6,h7,g,hq⟩:=h;have hgl:=g.net.blk.lt;have hpl:=g.ptr.lt;have hpp:pp<w.heap.size:=BlkAt.lt h6;have hbk:∀i,i<n->7<=bl i/\bl i<w.heap.size:=fun i hi=>by
  obtain⟨l,hlm,kb,mb,rbs,es,clk,ev,sv,p⟩:=g.proc i hi;exact⟨((g.cl i hi).obj _ p.fb).1,p.blk.lt⟩
 refine qb2 hK h1 h2 (f:=62) rfl rfl (args:=#[pT gb 0,.pointer (some ⟨bl k,0,none⟩)]) (fun v hv=>?_) (by simp[Addr.pm,hbl k hk]) (R:=fun e w'=>e=.returned (.tuple #[])/\(∀x,x<w.heap.size->¬Whl gb pb n Fp Fn x->w'.heap[x]?=w.heap[x]?)/\∃Fn' nv',GB w' gb pb n win 4000 bl Fp Fn' st (fun j=>if j=k then [] else snt j) (sentAll 4000 pl (snt k)) nv'/\∀x,Fn' x->Plus Fn w x) (fun τ _=>?_) (fun e w' h=>⟨_,h.1⟩) fun v w' π' wa' O' hR hg hL hsz hsame _=>?_
 ·simp only[yag,yF,yU,or_false] at hv;rcases hv with rfl|rfl
  ·exact qfp g.lg.1 hgl
  ·exact qfp (hbk k hk).1 (hbk k hk).2
 ·refine((g.same (w':=w.tp τ) rfl).carry hk (hl st snt pl hq)).mono ?_;rintro e w' ⟨rfl,hch,Fn',nv',g',hF⟩;exact⟨rfl,fun x hx hn=>hch.block x hx hn,Fn',nv',g',hF⟩
 ·obtain⟨e,hbl',Fn',nv',g',hF⟩:=hR;injection e with e;subst e;refine hgo O' wa' ⟨π',w',pp,gb,pb,bl,Fp,Fn',st,_,_,nv',hg,hL,hsame pp hpp,hsame gb hgl,hsame pb hpl,fun i hi=>(hsame _ (hbk i hi).2).trans (hbl i hi),h5,(hbl' pp hpp h7).trans h6,fun hx=>?_,g',snt,pl,hq,rfl,rfl⟩;rcases hx with hx|hx|hx|hx
  ·exact h7 (.inl hx)
  ·exact h7 (.inr (.inl hx))
  ·rcases hF pp hx with h|h
   ·exact h7 (.inr (.inr (.inl h)))
   ·omega
  ·exact h7 (.inr (.inr (.inr hx)))
theorem Mr.ms(h:Mr n win P0 G0 PB BL Q L O wa){J:(Nat->Pst)->List Par->Prop}(hQ:∀st snt pl,Q st snt pl->(∀i,i<n->snt i=[])/\J st pl):Ms n win P0 G0 J L O wa:=by
 obtain⟨π,w,pp,gb,pb,bl,Fp,Fn,st,snt,pl,nv,h1,h2,h3,h4, -, -,h5,h6,h7,g,hq⟩:=h;obtain⟨hz,hj⟩:=hQ st snt pl hq;exact⟨π,w,pp,gb,Whl gb pb n Fp Fn,st,pl,h1,h2,h3,h4,h5,h6,h7,⟨pb,bl,Fp,Fn,nv,g.ga hz,fun _ h=>h⟩,hj⟩
end
def qrv(outs:Nat->List Codec.Frame):Nat->List Par
 |0=>[]
 |k+1=>sentAll 4000 (qrv outs k) ((outs k).map par)
theorem qfq{outs:Nat->List Codec.Frame}{n:Nat}(h:∀i,i<n->(outs i).length<=1000):∀k,k<=n->(qrv outs k).length<=k * 1000
 |0,_=>yaA _
 | k + 1, hk => by
   have h1:=qfq h k (by omega);have h2:=qfi 4000 ((outs k).map par) (qrv outs k);have h3:=h k (by omega);rw[yL] at h2;show (sentAll 4000 (qrv outs k) ((outs k).map par)).length<=_;omega
def Qk(R:(Nat->Pst)->(Nat->List Codec.Frame)->Prop)(k:Nat)(st:Nat->Pst)(snt:Nat->List Par)(pl:List Par):Prop:=∃outs,R st outs/\(∀j,snt j=if j<k then [] else (outs j).map par)/\pl=qrv outs k
theorem Qk.next{R:(Nat->Pst)->(Nat->List Codec.Frame)->Prop}{k:Nat}{st:Nat->Pst}{snt:Nat->List Par}{pl:List Par}(h:∃snt0 pl0,Qk R k st snt0 pl0/\snt=(fun j=>if j=k then [] else snt0 j)/\pl=sentAll 4000 pl0 (snt0 k)):Qk R (k+1) st snt pl:=by
 obtain⟨snt0,pl0,⟨outs,hR,hs,rfl⟩,rfl,rfl⟩:=h;refine⟨outs,hR,fun j=>?_,?_⟩
 ·by_cases e:j=k
  ·subst e;simp
  ·simp only[if_neg e,hs j];by_cases h1:j<k
   ·rw[if_pos h1,if_pos (by omega)]
   ·rw[if_neg h1,if_neg (by omega)]
 ·rw[hs k,if_neg (by omega)];rfl
end
section
open Go.RowKit
open Go.Cr Go.Conc
open Go.Pm (Perm Loose Among Sup Ext Rely Ev)
def loopOf28:Code->Code
 |.seq _ (.seq _ (.seq _ (.seq (.seq _ (.block _ (.loop c))) _)))=>c
 |_=>.skip
def tailOf28:Code->Code
 |.seq _ (.seq _ (.seq _ (.seq _ t)))=>t
 |_=>.skip
noncomputable def lp28:Code:=loopOf28 (Tryz.f28.body.getD .skip)
noncomputable def tl28:Code:=tailOf28 (Tryz.f28.body.getD .skip)
theorem qly{P:Program}{main:Bool}{K:Nat->Prop}{A:World->Prop}{X:Event->Prop}{Stop:(Nat->Prop)->Goroutine->World->Prop}{O:Nat->Prop}{w:World}{b:Frame}{a:Act}{todo:List Item}{c:Frame}{cs:List Frame}{fn:Func}{t:Nat}{v:Value}(hn:b.kind=.normal)(hd:a.defers=[])(hf:P.funcs[b.fn]?=some fn)(hr:fn.results=#[.tmp t])(hv:a.tmps.getD t undef=v)
 (h:Go.Pm.Way P main K A X Stop O (G (c.finish v) cs) w):Go.Pm.Way P main K A X Stop O (G { b.at a todo with mode:=.returning } (c::cs)) w:=
 qc rfl (fun w=>by rw[stepG_leave hn hd hf ((results_tmp hr _ P w).trans (by rw[hv])) (events_results_tmp hr _ _)]) h
variable {n win P0 G0 PB m c3:Nat}{a3:Option Addr}{BL:Nat->Nat}{R:(Nat->Pst)->(Nat->List Codec.Frame)->Prop}{L:List (Nat × Obj)}{K:Nat->Prop}{A:World->Prop}{X:Event->Prop}{Stop:(Nat->Prop)->Goroutine->World->Prop}
theorem qlz(hn:n<=6)(hK:∀b,b<2->K b)(hRl:∀st outs,R st outs->∀i,i<n->(outs i).length<=1000){cf:Frame}{rest:List Frame}
 (hk:∀O' wa',Ms n win P0 G0 (fun st pl=>∃outs,R st outs/\pl=qrv outs n) L O' wa'->Go.Pm.Way prog true K A X Stop O' (G (cf.finish (J m)) rest) wa') :
 ∀ (r k : Nat), k + r = n -> ∀ (O : Nat -> Prop) (wa : World) (v1 v2 v4 v5 v6 v7 v8 v9 v10 v11 v12 v13 v14 v15 v16 v17 v18 v19 v20 v21 v25 v26 v27 v28 v29 v30 v31 v32 v33 : Value), Mr n win P0 G0 PB BL (Qk R k) L O wa ->
   Go.Pm.Way prog true K A X Stop O (G ((base 28).at ⟨#[pT G0 0,v1,v2,.slice a3 m c3,v4,v5,v6,v7,v8,v9,v10,v11,v12,v13,v14,v15,v16,v17,v18,v19,v20,v21,sT PB n n,J n,J k,v25,v26,v27,v28,v29,v30,v31,v32,v33],[]⟩ [.code lp28,.inLoop lp28,.inBlock 0,.code tl28]) (cf::rest)) wa:=by
 intro r;induction r with
 | zero =>
   intro k hkn O wa v1 v2 v4 v5 v6 v7 v8 v9 v10 v11 v12 v13 v14 v15 v16 v17 v18 v19 v20 v21 v25 v26 v27 v28 v29 v30 v31 v32 v33 hI;obtain rfl:k=n:=by omega
   simp only[lp28,tl28,loopOf28,tailOf28,Tryz.f28,yv];repeat refine wN ?_
   refine wR ?_;refine wV (.bool false) ?_;walk_nrm;repeat refine wN ?_
   refine wF ?_;refine qc rfl (fun _=>stepG_exit rfl) ?_;repeat refine wN ?_
   refine wR ?_;refine wV (.slice a3 m c3) ?_;iterate 2 (walk_nrm;refine wV (J m) ?_)
   walk_nrm;repeat refine wN ?_
   refine qc rfl (fun _=>stepG_ret') ?_;refine qly rfl rfl rfl rfl rfl (hk O wa (hI.ms fun st snt pl hq=>?_));obtain⟨outs,hR,hs,rfl⟩:=hq;exact⟨fun i hi=>by rw[hs i,if_pos hi],outs,hR,rfl⟩
 | succ r ih =>
   intro k hkn O wa v1 v2 v4 v5 v6 v7 v8 v9 v10 v11 v12 v13 v14 v15 v16 v17 v18 v19 v20 v21 v25 v26 v27 v28 v29 v30 v31 v32 v33 hI;have hkn':k<n:=by omega
   have hlt:(k:Int)<(n:Int):=by omega
   have hk0:(0:Int)<=(k:Int):=by omega
   have hadd:IntKind.i64.wrap ((k:Int)+1)=((k+1:Nat):Int):=by rw[yat];omega
   obtain⟨LP,hLP⟩:∃LP,LP=lp28:=⟨_,rfl⟩;obtain⟨TL,hTL⟩:∃TL,TL=tl28:=⟨_,rfl⟩;rw[<-hLP,<-hTL];rw[<-hLP,<-hTL] at ih;suffices hX:∀Y,Y=lp28->Go.Pm.Way prog true K A X Stop O (G ((base 28).at ⟨#[pT G0 0,v1,v2,.slice a3 m c3,v4,v5,v6,v7,v8,v9,v10,v11,v12,v13,v14,v15,v16,v17,v18,v19,v20,v21,sT PB n n,J n,J k,v25,v26,v27,v28,v29,v30,v31,v32,v33],[]⟩ [.code Y,.inLoop LP,.inBlock 0,.code TL]) (cf::rest)) wa from hX LP hLP;intro Y hY;simp only[lp28,loopOf28,Tryz.f28,yv] at hY;subst hY;repeat refine wN ?_
   refine wR ?_;refine wV (.bool true) ?_;walk_nrm;repeat refine wN ?_
   refine wT ?_;repeat refine wN ?_
   refine wR ?_;refine wV (pT PB k) ?_;walk_nrm;refine qb (v:=.pointer (some ⟨BL k,0,none⟩)) rfl rfl (by decide) (fun wB h₁=>?_) ?_
   ·obtain⟨-,sB, -,cB⟩:=(hI.rely hK h₁).cells;have c5:=cB k hkn';exact⟨by go_simp,by simp[go_sem, *];exact .inl sB⟩
   walk_nrm;refine wV (.pointer (some ⟨BL k,0,none⟩)) ?_;walk_nrm;repeat refine wN ?_
   refine wR ?_;refine wV (pT G0 0) ?_;walk_nrm;refine wV (.pointer (some ⟨BL k,0,none⟩)) ?_;walk_nrm;refine qe rfl rfl (by decide) rfl (fn:=Tryz.f62) rfl (by kernel_rfl) rfl ?_;walk_nrm;refine Mr.carry hI hK hkn' (fun st snt pl hq=>?_) fun O' wa' hI'=>?_
   ·obtain⟨outs,hR,hs,rfl⟩:=hq;have h1:=qfq (hRl st outs hR) k (by omega);have h2:=hRl st outs hR k hkn';rw[hs k,if_neg (by omega),yL];omega
   rw[yG];walk_nrm;repeat refine wN ?_
   refine wR ?_;iterate 2 (refine wV (J ((k+1:Nat):Int)) ?_;walk_nrm)
   repeat refine wN ?_
   refine qc rfl (fun _=>stepG_inLoop) ?_;obtain⟨π,w,pp,gb,pb,bl,Fp,Fn,st,snt,pl,nv,h1,h2,h3,h4,h5,h6,h7,h8,h9,g,hq⟩:=hI';apply ih (k+1) (by omega) O' wa';exact⟨π,w,pp,gb,pb,bl,Fp,Fn,st,snt,pl,nv,h1,h2,h3,h4,h5,h6,h7,h8,h9,g,Qk.next hq⟩
end
section
open Go.RowKit
open Go.Cr Go.Conc
open Go.Pm (Perm Loose Among Sup Ext Rely Ev)
def Rd(n:Nat)(st:Nat->Pst)(fl:List Codec.Frame)(st':Nat->Pst)(outs:Nat->List Codec.Frame):Prop:=
 ∀i,i<n->Mo.Comes n i (comeFor fl i) (st i).mp (st' i).mp/\Mo.Outs n i (st' i).mp (outs i)
structure AtW (n win P0 G0 gb lb pb base pp:Nat) (L:List (Nat × Obj)) (bl:Nat->Nat) (Fp:Nat->Nat->Prop) (st:Nat->Pst) (fl:List Codec.Frame) (vs:Array Value) (π:Perm) (w0 w wa:World) (O:Nat->Prop):Prop where
 gh:Gh π w wa O
 sides:Sides L O π w.heap.size wa
 p0:π.f pp=P0
 g0:π.f gb=G0
 p10:7<=pp
 shut:Go.Pm.Shut fam w0
 size:w0.heap.size=base
 old:∀k,k<base->w.heap[k]?=w0.heap[k]?
 le:base<=w.heap.size
 os:w.os=w0.os
 pl:PlAt w0 pp gb n win
 apart:¬Whl gb pb n Fp (fun _=>False) pp
 ga:GA w0 gb pb n win 4000 bl Fp (fun _=>False) st [] (sN)
 shr:Shr w base lb n vs fun j=>(comeFor fl j).map fun f=>⟨(Codec.encB f).toArray⟩
 fit:∀j,∀f∈comeFor fl j,Fit n j f
 few:fl.length<=4000
section
variable {n win P0 G0 gb lb pb bs pp:Nat}{L:List (Nat × Obj)}{bl:Nat->Nat}{Fp:Nat->Nat->Prop}{st:Nat->Pst}{fl:List Codec.Frame}{vs:Array Value}{π:Perm}{w0 w wa wa':World}{O K:Nat->Prop}
theorem AtW.lbb(a:AtW n win P0 G0 gb lb pb bs pp L bl Fp st fl vs π w0 w wa O):bs<=lb/\lb<w.heap.size/\7<=bs:=by
 refine⟨a.shr.lbb,a.shr.top.lt,?_⟩;have h1:=a.ga.lg.1;have h2:=a.ga.net.blk.lt;have h3:=a.size;omega
theorem AtW.fw(a:AtW n win P0 G0 gb lb pb bs pp L bl Fp st fl vs π w0 w wa O){i:Nat}(hi:i<n):∃v,vs[i]?=some v/\∀x,Fw (Fp i) v x->7<=x/\x<w.heap.size/\x≠gb/\x≠pb/\x≠lb/\(x<bs->Fp i x)/\(Fp i x->x<bs):=by
 obtain⟨v,hv⟩:∃v,vs[i]?=some v:=⟨_,yl (by rw[a.shr.size];exact hi)⟩;obtain⟨l1,l2,l3⟩:=a.lbb;have hle:=a.le;have hgl:=a.ga.net.blk.lt;have hpl:=a.ga.ptr.lt;have hsz:=a.size;have hb:∀x,Fp i x->x<bs:=fun x hx=>by
  have:=a.ga.bp i x hi hx;omega
 refine⟨v,hv,fun x hx=>?_⟩;rcases hx with hx|hx
 ·have h1:=hb x hx;exact⟨((a.ga.cl i hi).obj x hx).1,by omega,fun e=>(a.ga.disg i hi).1 (e▸hx),fun e=>(a.ga.disg i hi).2 (e▸hx),by omega,fun _=>hx,hb x⟩
 ·have hr:=a.shr.row i v hi hv;obtain⟨h1,h2⟩:=hr.lt x hx;exact⟨by omega,h2,by omega,by omega,fun e=>qfm hr a.shr.top (by rw[hx,e]),fun h=>by omega,hb x⟩
def Bsa(Fp:Nat->Nat->Prop)(vs:Array Value)(π:Perm)(i:Nat):Nat->Prop:=fun x=>∃r,Fw (Fp i) (vs.getD i undef) r/\π.f r=x
theorem AtW.start(a:AtW n win P0 G0 gb lb pb bs pp L bl Fp st fl vs π w0 w wa O)(hn:n<=6)(ho:Own O K wa):Go.Cr.Start O K (π.f gb) (π.f pb) (π.f lb) n n n (fun i=>π.f (bl i)) (fun i=>(vs.getD i undef).pm π) (Bsa Fp vs π) wa:=by
 obtain⟨l1,l2,l3⟩:=a.lbb;have hgl:=a.ga.net.blk.lt;have hpl:=a.ga.ptr.lt;have hsz:=a.size;have hle:=a.le;have hwg:BlkAt w gb 97 _:=(a.old gb (by omega)).trans a.ga.net.blk;have hwp:BlkAt w pb 102 _:=(a.old pb (by omega)).trans a.ga.ptr;have inO:∀r,7<=r->r<w.heap.size->O (π.f r):=fun r h1 h2=>a.gh.among r h1 h2;have hvg:∀i v,vs[i]?=some v->vs.getD i undef=v:=fun i v h=>by rw[ya,h];rfl
 refine⟨inO gb a.ga.lg.1 (by omega),inO pb a.ga.lg.2 (by omega),inO lb (by omega) l2,hn,⟨fun e=>?_,fun e=>?_⟩,?_,fun i hi=>?_,fun i hi=>?_,fun i hi b hb=>?_,fun i j hi hj hne b hb hb'=>?_,ho.lo,ho.lk,ho.ok⟩
 ·have:=π.inj e;omega
 ·have:=π.inj e;omega
 ·have:=a.gh.cell a.ga.lg.1 (hwg.cell 0 _ rfl);simpa[Addr.pm] using this.1
 ·have:=a.gh.cell a.ga.lg.2 (hwp.cell i (.pointer (some ⟨bl i,0,none⟩)) (by simp[hi]));simpa[Addr.pm] using this.1
 ·obtain⟨v,hv, -⟩:=a.fw hi;rw[hvg i v hv];exact(a.gh.cell (by omega) (a.shr.top.cell i v hv)).1
 ·obtain⟨v,hv,hall⟩:=a.fw hi;obtain⟨r,hr,rfl⟩:=hb;rw[hvg i v hv] at hr;obtain⟨h1,h2,h3,h4,h5, -⟩:=hall r hr;exact⟨inO r h1 h2,fun e=>h3 (π.inj e),fun e=>h4 (π.inj e),fun e=>h5 (π.inj e)⟩
 ·obtain⟨v,hv,hall⟩:=a.fw hi;obtain⟨u,hu,hall'⟩:=a.fw hj;obtain⟨r,hr,rfl⟩:=hb;obtain⟨r',hr',e⟩:=hb';obtain rfl:=π.inj e;rw[hvg i v hv] at hr;rw[hvg j u hu] at hr';have h1:=hall _ hr;have h2:=hall' _ hr';by_cases hlt:r'<bs
  ·exact hne (a.ga.dis i j _ hi hj (h1.2.2.2.2.2.1 hlt) (h2.2.2.2.2.2.1 hlt))
  ·rcases hr with hr|hr
   ·exact hlt (h1.2.2.2.2.2.2 hr)
   ·rcases hr' with hr'|hr'
    ·exact hlt (h2.2.2.2.2.2.2 hr')
    ·exact hne (a.shr.dis i j v u _ hi hj hv hu hr hr')
end
end
end Go.Proofs.YtoklolfaemhfnaaGreatDoor
namespace Go.Cr
section
open Go Go.Conc
open Go.Pm (Rely Guar Ev grow)
theorem Rely.less{O O' K K':Nat->Prop}{A:World->Prop}{w wB:World}(hO:∀b,O b->O' b)(hK:∀b,K b->K' b)(h:Rely O' K' A w wB):Rely O K A w wB:=⟨fun b hb=>h.own b (hb.imp (hO b) (hK b)),h.size,h.os,h.live⟩
theorem Ev.more{O O' K K':Nat->Prop}(hO:∀b,O b->O' b)(hK:∀b,K b->K' b){e:Event}(h:Ev O K e):Ev O' K' e:=by
 obtain⟨loc,wr,sy⟩:=e;cases loc with
 | cell a =>
   rcases h with h|⟨h1,h2⟩
   ·exact .inl (hO _ h)
   ·exact .inr ⟨hK _ h1,h2⟩
 |obj b=>exact⟨hO _ h.1,h.2⟩
 |mark m=>exact h
 |output=>trivial
 |goroutines=>exact h
theorem qiy{O O':Nat->Prop}(hO:∀b,O b->O' b)(w w':World):∀b,grow O w w' b->grow O' w w' b:=fun b h=>h.imp (hO b) id
theorem Guar.more{O O' K K':Nat->Prop}{X:Event->Prop}{w w':World}{es:Array Event}(hO:∀b,O b->O' b)(hK:∀b,K b->K' b)(h:Guar O K X w w' es):Guar O' K' X w w' es:=
 ⟨fun b hb hn=>h.frame b hb fun ho=>hn (hO b ho),h.size,h.tape,h.os,fun e he=>(h.evs e he).imp (Ev.more (qiy hO w w') hK) id⟩
theorem Main.more{P:Program}{ty:TypeId}{Post:Value->World->Prop}{Wg:Nat}{Qs:List Fact}{tag:Tag}{O K:Nat->Prop}{g:Goroutine}{w:World}(h:Main P ty Post Wg Qs tag O K g w):∀{O' K':Nat->Prop},(∀b,O b->O' b)->(∀b,K b->K' b)->Main P ty Post Wg Qs tag O' K' g w:=by
 induction h with
 | idle hrun hgo _ ih =>
   intro O' K' hO hK;refine .idle hrun (fun wB h₁=>?_) fun wB g' w' es h₁ he=>ih wB g' w' es (Rely.less hO hK h₁) he (qiy hO wB w') hK;obtain⟨g',w',es,e1,e2⟩:=hgo wB (Rely.less hO hK h₁);exact⟨g',w',es,e1,Guar.more hO hK e2⟩
 | fin hrun hgo =>
   intro O' K' hO hK;refine .fin hrun fun wB h₁=>?_;obtain⟨v,es,e1,e2,e3⟩:=hgo wB (Rely.less hO hK h₁);exact⟨v,es,e1,fun e he=>Ev.more hO hK (e2 e he),e3⟩
 | enter hO' hW _ ih =>
   intro O' K' hO hK;exact .enter (hO _ hO') hW (ih (fun b hb=>⟨hO b hb.1,hb.2⟩) hK)
 | kd hrun hgo _ ih =>
   intro O' K' hO hK;exact .kd hrun (fun wB h₁=>hgo wB (Rely.less hO hK h₁)) fun wB g' w' es h₁ he=>ih wB g' w' es (Rely.less hO hK h₁) he hO hK
 | add hrun hlen hgo _ ih =>
   intro O' K' hO hK;exact .add hrun hlen (fun wB h₁=>hgo wB (Rely.less hO hK h₁)) fun wB g' w' es v h₁ hv hw he=>ih wB g' w' es v (Rely.less hO hK h₁) hv hw he hO hK
 | en hrun hgo _ ih =>
   intro O' K' hO hK;exact .en hrun (fun wB h₁=>hgo wB (Rely.less hO hK h₁)) fun wB g' w' es h₁ he=>ih wB g' w' es (Rely.less hO hK h₁) he hO hK
 | go Q Bs R hrun hlen hB hR hBR hgo hc _ ih =>
   intro O' K' hO hK;exact .go Q Bs R hrun hlen (fun b hb=>hO b (hB b hb)) (fun b hb=>(hR b hb).imp (hO b) (hK b)) hBR (fun wB h₁=>hgo wB (Rely.less hO hK h₁)) (fun wB g' child w' es h₁ he=>hc wB g' child w' es (Rely.less hO hK h₁) he) fun wB g' child w' es h₁ he=>ih wB g' child w' es (Rely.less hO hK h₁) he (fun b hb=>⟨hO b hb.1,hb.2⟩) (fun b hb=>hb.imp (hK b) id)
 | wd hrun hgo _ ih =>
   intro O' K' hO hK;exact .wd hrun (fun wB h₁=>hgo wB (Rely.less hO hK h₁)) fun wB g' w' es h₁ he=>ih wB g' w' es (Rely.less hO hK h₁) he hO hK
 | ld hrun hgo _ _ ih0 ih1 =>
   intro O' K' hO hK;exact .ld hrun (fun wB h₁=>hgo wB (Rely.less hO hK h₁)) (fun wB g' w' es h₁ hw he=>ih0 wB g' w' es (Rely.less hO hK h₁) hw he hO hK) fun wB g' w' es v h₁ h1 h2 hw he=>ih1 wB g' w' es v (Rely.less hO hK h₁) h1 h2 hw he hO hK
 | cas hrun hhit hmiss _ _ ih3 iha =>
   intro O' K' hO hK;exact .cas hrun (fun wB h₁=>hhit wB (Rely.less hO hK h₁)) (fun wB h₁=>hmiss wB (Rely.less hO hK h₁)) (fun wB g' w' es h₁ hw he=>ih3 wB g' w' es (Rely.less hO hK h₁) hw he hO hK) fun wB g' w' es v h₁ hv hw he=>iha wB g' w' es v (Rely.less hO hK h₁) hv hw he hO hK
 | sem hrun hoff hblk hgo _ ih =>
   intro O' K' hO hK;exact .sem hrun hoff (fun wB h₁=>hblk wB (Rely.less hO hK h₁)) (fun wB h₁=>hgo wB (Rely.less hO hK h₁)) fun wB g' w' es h₁ hw he=>ih wB g' w' es (Rely.less hO hK h₁) hw he hO hK
 | l4 hrun hgo _ ih =>
   intro O' K' hO hK;exact .l4 hrun (fun wB h₁=>hgo wB (Rely.less hO hK h₁)) fun wB g' w' es h₁ hw he=>ih wB g' w' es (Rely.less hO hK h₁) hw he hO hK
 | ke hrun hgo _ ih =>
   intro O' K' hO hK;exact .ke hrun (fun wB h₁=>hgo wB (Rely.less hO hK h₁)) fun wB g' w' es h₁ he=>ih wB g' w' es (Rely.less hO hK h₁) he hO hK
 | aq hrun hgo _ ih =>
   intro O' K' hO hK;exact .aq hrun (fun wB h₁=>hgo wB (Rely.less hO hK h₁)) fun wB g' w' es Os h₁ hq hd hdd he=>ih wB g' w' es Os (Rely.less hO hK h₁) hq (fun i hi b hb=>⟨fun h=>(hd i hi b hb).1 (hO b h),fun h=>(hd i hi b hb).2.1 (hK b h),(hd i hi b hb).2.2⟩) hdd he (fun b hb=>hb.imp (hO b) id) hK
end
end Go.Cr
namespace Go.Proofs.YtoklolfaemhfnaaGreatDoor
section
open Go.RowKit
open Go.Cr Go.Conc
open Go.Pm (Perm Loose Among Sup Ext Rely Ev loose_live)
variable {n win P0 G0 gb lb pb bs pp:Nat}{L:List (Nat × Obj)}{bl:Nat->Nat}{Fp:Nat->Nat->Prop}{st:Nat->Pst}{fl:List Codec.Frame}{vs:Array Value}{π:Perm}{w0 w wa wa':World}{O K:Nat->Prop}
def Qw(n win:Nat)(bl:Nat->Nat)(Fp:Nat->Nat->Prop)(st:Nat->Pst)(fl:List Codec.Frame)(vs:Array Value)(π:Perm)(k:Nat):Fact:=Wkd n win k (π.f (bl k)) (comeFor fl k) (st k) (Bsa Fp vs π k)
theorem AtW.child(a:AtW n win P0 G0 gb lb pb bs pp L bl Fp st fl vs π w0 w wa O)(hn:n<=6)(ho:Own O K wa)(hK:∀b,b<2->K b){Wg bx:Nat}(hWg:wa.heap.size<=Wg){k:Nat}(hk:k<n) :
 Child K (π.f lb) n n (fun i=>π.f (bl i)) (fun i=>(vs.getD i undef).pm π) (Bsa Fp vs π) (Qw n win bl Fp st fl vs π) wa Wg bx k:=by
 obtain⟨v,hv,hall⟩:=a.fw hk;have hvg:vs.getD k undef=v:=by rw[ya,hv];rfl
 have hS:=a.start hn ho;have hsz0:=a.size;have keep:∀x,x<w0.heap.size->w.heap[x]?=w0.heap[x]?:=fun x hx=>a.old x (by omega);have hcl0:=a.ga.cl k hk;have hcl:Cl w (Fp k):=hcl0.kept (fun x hx=>keep x (hcl0.lt hx)) (fun x hx=>keep x (yg hx hcl0.low)) (by have:=a.le;omega);have hp:PX w (Fp k) (bl k) (qre k n win) (st k).kn (st k).ms (st k).evs []:=(a.ga.proc k hk).kept fun x _ hx=>keep x hx;have hrow:=a.shr.row k v hk hv;rw[yL,yaD] at hrow;refine qpn hk hWg (fun b hb=>hS.lo b (hS.bs k hk b hb).1) (fun O' w1 w2 h1 h2 h3 h4=>Wkd.stable O' w1 w2 h1 h2 h3 h4) fun R A wB hR hsame hsz hos=>?_;have:=worker (v:=v) (fs:=comeFor fl k) (R:=R) (A:=A) (wB:=wB) hn hk a.gh.loose hp hcl (a.ga.ok k hk).1 (a.ga.ok k hk).2 (a.fit k) (yr (yaR _ _) (yr a.few (by omega))) hrow a.lbb.2.2 (fun g cur e fz hg hc=>a.shr.flat k v g cur e fz hk hv hg hc) (fun g hg hF=>by
  have h1:=(hall g (.inl hF)).2.2.2.2.2.2 hF;have h2:=(hrow.lt g hg).1;omega) (fun b hb=>hR b (hK b hb)) (leafLaw.loc wa wB (fun b hb=>hsame b (.inr (hK b hb))) a.gh.taba) (fun r hr=>hsame _ (.inl ⟨r,by rw[hvg];exact hr,rfl⟩)) hsz hos
 unfold Qw Bsa;simp only[hvg];exact this
theorem AtW.back(a:AtW n win P0 G0 gb lb pb bs pp L bl Fp st fl vs π w0 w wa O)(hn:n<=6)(ho:Own O K wa)(hK:∀b,b<2->K b){Wg bx:Nat}{On Kn:Nat->Prop}{Os:Nat->Nat->Prop}(j:At O K (π.f lb) n n (Bsa Fp vs π) wa Wg bx n On Kn wa')
 (hq:∀i,i<n->Qw n win bl Fp st fl vs π i (Os i) wa') (hOs:∀i,i<n->∀b,Os i b->¬On b/\¬Kn b/\b<wa'.heap.size) (hOd:∀i k,i<n->k<n->i≠k->∀b,Os i b->¬Os k b) :
 ∃O':Nat->Prop,(∀b,O' b->On b\/∃i,i<n/\Os i b)/\Own O' (fun b=>b<2) wa'/\Mr n win P0 G0 (π.f pb) (fun i=>π.f (bl i)) (Qk (fun st' outs=>Rd n st fl st' outs/\∀i,i<n->(outs i).length<=1000) 0) L O' wa':=by
 obtain⟨l1,l2,l3⟩:=a.lbb;have hsz0:=a.size;have hle:=a.le;have hS:=a.start hn ho;have hta:Tabs wa':=leafLaw.loc wa wa' (fun b hb=>j.sameK b (hK b hb)) a.gh.taba;have hL0:Loose fam π w0 wa:=⟨fun r o hl hr=>a.gh.loose.obj r o hl ((a.old r (by have:=(yk.1 hr).1;omega)).trans hr),a.gh.loose.ids,by show 7<=w0.heap.size;omega,a.gh.loose.lowa,by rw[a.gh.loose.os];exact a.os,a.gh.loose.g,a.gh.loose.b⟩;have nb:∀r,(∀i,i<n->¬Fw (Fp i) (vs.getD i undef) r)->∀i,i<n->¬Bsa Fp vs π i (π.f r):=fun r hr i hi ⟨r',h1,h2⟩=>hr i hi (π.inj h2▸h1);have inO:∀r,7<=r->r<w0.heap.size->O (π.f r):=fun r h1 h2=>a.gh.among r h1 (by omega);have nab:∀r,r<w0.heap.size->π.f r≠π.f lb:=fun r hr e=>by have:=π.inj e;omega
 have onK:∀r,7<=r->r<w0.heap.size->(∀i,i<n->¬Fw (Fp i) (vs.getD i undef) r)->On (π.f r):=fun r h1 h2 h3=>j.own _ (inO r h1 h2) (nb r h3) (nab r h2);have hBg:∀i,i<n->¬Fw (Fp i) (vs.getD i undef) gb/\¬Fw (Fp i) (vs.getD i undef) pb:=fun i hi=>by
  obtain⟨v,hv,hall⟩:=a.fw hi;have hvg:vs.getD i undef=v:=by rw[ya,hv];rfl
  rw[hvg];exact⟨fun h=>(hall _ h).2.2.1 rfl,fun h=>(hall _ h).2.2.2.1 rfl⟩
 obtain⟨w',π',Fp',st',outs,hLo,hSh,ht',hge,hπ,hkp,hall,g',hFp,hmo⟩:=regroup (Bw:=fun i=>Fw (Fp i) (vs.getD i undef)) (Os:=Os) (fs:=comeFor fl) hL0 a.shut hta a.ga hBg j.size (fun r h1 h2 h3=>j.same _ (inO r h1 h2) (nb r h3)) hq hOd (fun i hi r h1 h2 h3 h4=>(hOs i hi _ h4).1 (onK r h1 h2 h3));have hpl0:pp<w0.heap.size:=BlkAt.lt a.pl;have hpk:∀i,i<n->¬Fw (Fp i) (vs.getD i undef) pp:=fun i hi h=>by
  obtain⟨v,hv,hfw⟩:=a.fw hi;have hvg:vs.getD i undef=v:=by rw[ya,hv];rfl
  rw[hvg] at h;exact a.apart (.inr (.inr (.inr ⟨i,hi,(hfw pp h).2.2.2.2.2.1 (by omega)⟩)))
 have hgl:=a.ga.net.blk.lt;have hpbl:=a.ga.ptr.lt;have side:∀x∈L,On x.1/\x.1<wa.heap.size/\wa'.heap[x.1]?=some x.2/\∀r,7<=r->r<w.heap.size->π.f r≠x.1:=fun x hx=>by
  obtain⟨z1,z2,z3⟩:=a.sides x hx;have hnb:∀i,i<n->¬Bsa Fp vs π i x.1:=fun i hi ⟨r,h1,h2⟩=>by
   obtain⟨v,hv,hfw⟩:=a.fw hi;have hvg:vs.getD i undef=v:=by rw[ya,hv];rfl
   rw[hvg] at h1;exact z3 r (hfw r h1).1 (hfw r h1).2.1 h2
  exact⟨j.own _ z1 hnb fun e=>z3 lb (by omega) l2 e.symm,(yk.1 z2).1,(j.same _ z1 hnb).trans z2,z3⟩
 refine⟨fun b=>(∃r,7<=r/\r<w'.heap.size/\π'.f r=b)\/∃x∈L,x.1=b,fun b hb=>?_,⟨fun b hb=>?_,fun b hb=>?_,fun b hb hb2=>?_⟩,⟨π',w',pp,gb,pb,bl,Fp',fun _=>False,st',_,[],_,⟨hLo,hSh,ht',hta,fun r h1 h2=>.inl ⟨r,h1,h2,rfl⟩⟩,fun x hx=>?_,(hπ pp hpl0).trans a.p0,(hπ gb hgl).trans a.g0,hπ pb hpbl,fun i hi=>?_,a.p10,(hkp pp a.p10 hpl0 hpk).trans a.pl,fun hx=>?_,g',outs,⟨hmo,fun i hi=>?_⟩,fun j=>by simp,rfl⟩⟩
 ·rcases hb with ⟨r,h1,h2,rfl⟩|⟨x,hx,rfl⟩
  ·rcases hall r h1 h2 with ⟨h3,h4⟩|h3
   ·rw[hπ r h3];exact .inl (onK r h1 h3 h4)
   ·exact .inr h3
  ·exact .inl (side x hx).1
 ·rcases hb with ⟨r,h1,h2,rfl⟩|⟨x,hx,rfl⟩
  ·exact hLo.sim.lt h2
  ·exact yg (side x hx).2.1 j.size
 ·have:=hLo.lowa;have h10:7<=wa'.heap.size:=this;omega
 ·rcases hb with ⟨r,h1,h2,rfl⟩|⟨x,hx,rfl⟩
  ·have:7<=π'.f r:=loose_live hLo h1;omega
  ·exact ho.ok _ (a.sides x hx).1 (hK _ hb2)
 ·refine⟨.inr ⟨x,hx,rfl⟩,(side x hx).2.2.1,fun r h1 h2 e=>?_⟩;rcases hall r h1 h2 with ⟨h3, -⟩|⟨i,hi,h3⟩
  ·rw[hπ r h3] at e;exact(side x hx).2.2.2 r h1 (by omega) e
  ·rw[e] at h3;exact(hOs i hi _ h3).1 (side x hx).1
 ·have:bl i<w0.heap.size:=by
   obtain⟨l,hlm,kb,mb,rbs,es,clk,ev,sv,p⟩:=a.ga.proc i hi;exact p.blk.lt
  exact hπ _ this
 ·rcases hx with h|h|h|⟨i,hi,h⟩
  ·exact a.apart (.inl h)
  ·exact a.apart (.inr (.inl h))
  ·exact h
  ·rcases hFp i pp hi h with h1|h1
   ·exact hpk i hi h1
   ·omega
 ·have h1:(st' i).ms.length<=126:=(g'.proc i hi).len hn (g'.ok i hi).1;have h2:(outs i).length<=(n - 1) * (1+(st' i).ms.length):=(hmo i hi).2.len;have h3:(n - 1) * (1+(st' i).ms.length)<=5 * 127:=Nat.mul_le_mul (by omega) (by omega);omega
end
section
open Go.RowKit
open Go.Cr Go.Conc
open Go.Pm (Perm Loose Among Sup Ext Rely Ev)
variable {n win P0 G0:Nat}{L:List (Nat × Obj)}{O K:Nat->Prop}{wa:World}{J:(Nat->Pst)->List Par->Prop}{Post:Value->World->Prop}
def StopW(n win P0 G0:Nat)(J:(Nat->Pst)->List Par->Prop)(L:List (Nat × Obj))(Post:Value->World->Prop)(cf:Frame)(rest:List Frame):(Nat->Prop)->Goroutine->World->Prop:=fun OW g wC=>
 ∃ (c' : Frame) (gb lb pb bs pp : Nat) (bl : Nat -> Nat) (Fp : Nat -> Nat -> Prop) (st : Nat -> Pst) (fl : List Codec.Frame) (vs : Array Value) (π : Perm) (w0 w : World), J st (fl.map par) /\ g = G (Frame.enter prog 60 #[.pointer (some ⟨π.f gb, 0, none⟩), .slice (some ⟨π.f lb, 0, none⟩) n n] .normal) (c' :: cf :: rest) /\ AtW n win P0 G0 gb lb pb bs pp L bl Fp st fl vs π w0 w wC OW /\
   ∀Wg O' wa',Own O' (fun b=>b<2) wa'->Mr n win P0 G0 (π.f pb) (fun i=>π.f (bl i)) (Qk (fun st' outs=>Rd n st fl st' outs/\∀i,i<n->(outs i).length<=1000) 0) L O' wa'->Main prog 148 Post Wg [] .free O' (fun b=>b<2) (G (c'.finish (.tuple #[])) (cf::rest)) wa'
theorem qgl(hn:1<=n/\n<=6)(hK:∀b,b<2->K b)(hJ:∀st pl,J st pl->Jn n st pl)(h:Ms n win P0 G0 J L O wa)(ho:Own O K wa){WgA:Nat}{cf:Frame}{rest:List Frame}
 (kont:∀Wg O' wa' (m:Nat),Own O' (fun b=>b<2) wa'->Ms n win P0 G0 (fun st' pl'=>∃st fl outs,J st (fl.map par)/\(∀f∈fl,Codec.fits f=true)/\fl.length=m/\Rd n st fl st' outs/\pl'=qrv outs n) L O' wa'->Main prog 148 Post Wg [] .free O' (fun b=>b<2) (G (cf.finish (.int .i64 m)) rest) wa') :
 Main prog 148 Post WgA [] .free O K (G (Frame.enter prog 28 #[pT G0 0] .normal) (cf::rest)) wa:=by
 have part1:Go.Pm.Way prog true K (Al 148 WgA .free) (XS WgA .free) (StopW n win P0 G0 J L Post cf rest) O (G (Frame.enter prog 28 #[pT G0 0] .normal) (cf::rest)) wa:=by
  obtain⟨π,w,pp,gb,FG,st,pl,h1,h2,h3,rfl,h5,h6,h7,h8,h9⟩:=h;have hgb:=h8.at10;have hpp:pp<w.heap.size:=BlkAt.lt h6;rw[enter_at _ Tryz.func28 rfl];simp only[Tryz.f28];walk_nrm;repeat refine wN ?_
  refine wR ?_;refine wV (.int .i64 0) ?_;walk_nrm;repeat refine wN ?_
  refine wR ?_;iterate 2 (refine wV (.pointer (some ⟨π.f gb,0,none⟩)) ?_;walk_nrm)
  refine wV (.pointer (some ⟨π.f gb,1,none⟩)) ?_;walk_nrm;refine qe rfl rfl (by decide) rfl (fn:=Tryz.f59) rfl (by kernel_rfl) rfl ?_;walk_nrm;refine qb2 hK h1 h2 (f:=59) rfl rfl (args:=#[pT gb 1]) (fun v hv=>?_) (by simp[Addr.pm]) (R:=fun e w'=>∃pb bl Fp nv,e=.returned nv/\w'.heap.size=w.heap.size/\(∀k,k≠gb->w'.heap[k]?=w.heap[k]?)/\Tk w' FG gb pb n win bl Fp st pl nv) (fun τ _=>?_) (fun e w' h=>?_) fun v w1 π1 wa1 O1 hR1 hg1 hL1 _ hsame1 _=>?_
  ·simp only[yag,yF,yU,or_false] at hv;subst hv;intro σ hσ;have:σ.f gb=gb:=hσ.1 gb hgb.1 hgb.2;simp[Addr.pm,this]
  ·obtain⟨pb,bl,Fp,nv,hc⟩:=qn4 (h8.same (w':=w.tp τ) rfl);refine hc.mono ?_;rintro e w' ⟨rfl,ha,hb,hc⟩;exact⟨pb,bl,Fp,nv,rfl,ha,hb,hc⟩
  ·obtain⟨pb,bl,Fp,nv,h, -⟩:=h;exact⟨_,h⟩
  obtain⟨pb,bl,Fp,nv,e,hsz1,hbl1,tk⟩:=hR1;injection e with e;subst e;obtain⟨ao,vc,hv⟩:=qp tk.row;rw[yG,hv];simp only[Go.Pm.pm_slice];generalize hm:pl.length=m at hv;generalize ha3:ao.map (Addr.pm π1)=a3;walk_nrm;have hgsame:π1.f gb=π.f gb:=hsame1 gb hgb.2;have hpsame:π1.f pp=P0:=(hsame1 pp hpp).trans h3;have hw1g:=tk.ga.net.blk;have hpg:pp≠gb:=fun e=>h7 (tk.whl _ (.inl e));have hpl1:PlAt w1 pp gb n win:=(hbl1 pp hpg).trans h6;refine wV (.slice a3 m vc) ?_;walk_nrm;repeat refine wN ?_
  refine wR ?_;refine wV (.pointer (some ⟨π.f gb,0,none⟩)) ?_;walk_nrm;refine wV (.slice a3 m vc) ?_;iterate 3 (walk_nrm;refine wV (.pointer (some ⟨π.f gb,0,none⟩)) ?_)
  walk_nrm;refine qb (v:=.slice (some ⟨π1.f pb,0,none⟩) n n) rfl rfl (by decide) (fun wB h₁=>?_) ?_
  ·have c5:=(hg1.rely hK h₁).cell tk.ga.lg.1 (hw1g.cell 0 _ rfl);simp only[yf,yd,Go.Pm.pm_slice,yp,Addr.pm,hgsame] at c5;obtain⟨c5,sG⟩:=c5;exact⟨by go_simp,by simp[go_sem, *];exact .inl sG⟩
  walk_nrm;refine wV (.int .i64 n) ?_;walk_nrm;refine qe rfl rfl (by decide) rfl (fn:=Tryz.f61) rfl (by kernel_rfl) rfl ?_;walk_nrm;have hvp:v.pm π1=.slice a3 m vc:=by rw[hv,<-ha3];simp
  refine qb2 hK hg1 hL1 (f:=61) rfl rfl (args:=#[v,.int .i64 n]) (fun u hu=>?_) (by simp[hvp]) (R:=fun e w'=>e=.returned (sT w1.heap.size n n)/\(∀k,k<w1.heap.size->w'.heap[k]?=w1.heap[k]?)/\w1.heap.size<=w'.heap.size/\w'.os=w1.os/\∃vs,Shr w' w1.heap.size w1.heap.size n vs (forOf pl)) (fun τ _=>?_) (fun e w' h=>⟨_,h.1⟩) fun v2 w2 π2 wa2 O2 hR2 hg2 hL2 _ hsame2 _=>?_
  ·simp only[yag,yF,yU,or_false] at hu;rcases hu with rfl|rfl
   ·intro σ hσ;rcases tk.row.2 with ⟨h0, -⟩|⟨g,cap,cur,h0, -⟩
    ·rw[h0];simp
    ·have:σ.f g=g:=hσ.1 g (tk.foot g (by rw[h0];rfl)).2.1 (tk.row.lt g (by rw[h0];rfl)).2;rw[h0];simp[Addr.pm,this]
   ·exact qco (by simp)
  ·exact qpo (tk.below (w':=w1.tp τ) (fun _ _=>rfl) (yb _)) hn.2 (hJ _ _ h9)
  obtain⟨e,hold,hle2,hos2,vs,hshr⟩:=hR2;injection e with e;subst e;rw[yG];simp only[Go.Pm.pm_slice,yp,Addr.pm];walk_nrm;refine qe rfl rfl (by decide) rfl (fn:=Tryz.f60) rfl (by kernel_rfl) rfl ?_;walk_nrm;obtain⟨Gm,fl,hmi,hfl,hgen,hl4⟩:=hJ _ _ h9;have hgsame2:π2.f gb=π.f gb:=(hsame2 gb (by rw[hsz1];exact hgb.2)).trans hgsame;refine .stop fun wB h₁=>⟨_,gb,w1.heap.size,pb,w1.heap.size,pp,bl,Fp,st,fl,vs,π2,w1,w2,hfl▸h9,by rw[hgsame2],⟨hg2.rely hK h₁,hL2.rely h₁,(hsame2 pp (by rw[hsz1];exact hpp)).trans hpsame,hgsame2,h5,hg1.shut,rfl,hold,hle2,hos2,hpl1,fun hx=>h7 (tk.whl _ hx),tk.ga,?_,qkc hn.2 hmi hgen,by rw[hfl,yL] at hl4;exact hl4⟩,fun Wg O' wa' hown' hMr=>?_⟩
  ·have:(fun j=>(comeFor fl j).map fun f=>(⟨(Codec.encB f).toArray⟩:ByteArray))=forOf pl:=by
    funext j;rw[hfl,qn5]
   rw[this];exact hshr
  ·have hK2:∀b,b<2->(fun b=>b<2) b:=fun b hb=>hb;refine Main.of_way (qff (Stop:=fun OW g wC=>g=G (cf.finish (.int .i64 m)) rest/\Ms n win P0 (π.f gb) (fun st' pl'=>∃outs,(Rd n st fl st' outs/\∀i,i<n->(outs i).length<=1000)/\pl'=qrv outs n) L OW wC) ?_ hown') (fun OW g wC hS=>?_)
   ·rw[yG];walk_nrm;repeat refine wN ?_
    refine wR ?_;iterate 3 (refine wV (.pointer (some ⟨π.f gb,0,none⟩)) ?_;walk_nrm)
    refine qb (v:=.slice (some ⟨π2.f pb,0,none⟩) n n) rfl rfl (by decide) (fun wB h₁=>?_) ?_
    ·obtain⟨sG,sB,c5, -⟩:=(hMr.rely hK2 h₁).cells;exact⟨by go_simp,by simp[go_sem, *];exact .inl sG⟩
    walk_nrm;refine wV (.int .i64 n) ?_;walk_nrm;refine wV (.int .i64 ((0:Nat):Int)) ?_;walk_nrm;repeat refine wN ?_
    refine qc rfl (fun _=>stepG_loop) ?_;exact qlz (m:=m) (c3:=vc) (a3:=a3) hn.2 hK2 (fun st' outs h=>h.2) (fun O4 w4 h4=>.stop fun w5 h5=>⟨rfl,h4.rely hK2 h5⟩) n 0 (by omega) O' wa' _ _ _ _ _ _ _ _ _ _ _ _ _ _ _ _ _ _ _ _ _ _ _ _ _ _ _ _ _ hMr
   ·obtain⟨⟨rfl,hM⟩,hown2⟩:=hS wC (.refl _ _ _ _);refine kont Wg OW wC m hown2 (hM.imp fun st' pl' h=>?_);obtain⟨outs,hr,rfl⟩:=h;exact⟨st,fl,outs,hfl▸h9,fun f hf=>(hgen f hf).fits hmi hn.2,by rw[<-hm,hfl,yL],hr.1,rfl⟩
 refine Main.of_way (qff part1 ho) (fun OW g wC hS=>?_)
 ·obtain⟨⟨c',gb,lb,pb,bs,pp,bl,Fp,st,fl,vs,π,w0,w,hj,rfl,a,hkont⟩,hown⟩:=hS wC (.refl _ _ _ _);refine qir (a.start hn.2 hown) (QQ:=Qw n win bl Fp st fl vs π) (fun Wg bx hWg hbx k hk=>a.child hn.2 hown hK hWg hk) (fun k hk O' w wB h1 h2 h3 h4=>Wkd.stable O' w wB h1 h2 h3 h4) ?_;intro Wg bx On Kn Os w' j hq hOs hOd;obtain⟨O',hO',hown',hMr⟩:=a.back hn.2 hown hK j hq hOs hOd;exact(hkont Wg O' w' hown' hMr).more hO' (fun b hb=>j.ro b (hK b hb))
end
section
open Go.RowKit
variable {n:Nat}{st st':Nat->Pst}{fl:List Codec.Frame}{outs:Nat->List Codec.Frame}{G:List Codec.Msg}
theorem Rd.turn(h:Rd n st fl st' outs):Mo.Turn n (mps st) (mps st') fl ((List.range n).flatMap outs) outs:=⟨fun j hj=>(h j hj).1,fun j hj=>(h j hj).2,rfl⟩
theorem qfr(h:∀i,i<n->(outs i).length<=605)(hn:n<=6):∀k,k<=n->qrv outs k=((List.range k).flatMap outs).map par/\((List.range k).flatMap outs).length<=k * 605
 |0,_=>⟨rfl,yaA _⟩
 | k + 1, hk => by
   obtain⟨h1,h2⟩:=qfr h hn k (by omega);have h3:=h k (by omega);have e:(List.range (k+1)).flatMap outs=(List.range k).flatMap outs++outs k:=by rw[List.range_succ,List.flatMap_append];simp
   refine⟨?_,by rw[e,yC];omega⟩;show sentAll 4000 (qrv outs k) ((outs k).map par)=_;rw[h1,qiu (by rw[yL,yL];omega),e,y8]
theorem qfs:∀{l l':List Codec.Frame},(∀f∈l,Codec.fits f=true)->(∀f∈l',Codec.fits f=true)->l.map par=l'.map par->l=l'
 |[],[],_,_,_=>rfl
 |[],_::_,_,_,h=>by simp at h
 |_::_,[],_,_,h=>by simp at h
 | f :: l, f' :: l', h1, h2, h => by
   simp only[yN,yar] at h;rw[qn2 (h1 f (by simp)) (h2 f' (by simp)) h.1,qfs (fun x hx=>h1 x (by simp[hx])) (fun x hx=>h2 x (by simp[hx])) h.2]
def Lv(i n:Nat)(st:Nat->Pst)(pl:List Par):Prop:=∃(G:List Codec.Msg) (fl:List Codec.Frame),pl=fl.map par/\Mo.MI n G (mps st)/\(∀f∈fl,Mo.Gen n G (mps st) f)/\fl.length<=4000/\(1<=i->i<=2->Mo.Told n (mps st) fl)/\(i=2->Mo.Fulls n G (mps st))/\(3<=i->Mo.Settled n G (mps st))
theorem Lv.jn{i:Nat}{pl:List Par}(h:Lv i n st pl):Jn n st pl:=by
 obtain⟨G,fl,h1,h2,h3,h4, -⟩:=h;exact⟨G,fl,h2,h1,h3,by rw[h1,yL];exact h4⟩
theorem Jn.lv{pl:List Par}(h:Jn n st pl):Lv 0 n st pl:=by
 obtain⟨G,fl,h1,h2,h3,h4⟩:=h;exact⟨G,fl,h2,h1,h3,by rw[h2,yL] at h4;exact h4,by omega,by omega,by omega⟩
theorem Lv.round(hn:n<=6){i:Nat}(h:Lv i n st (fl.map par))(hf:∀f∈fl,Codec.fits f=true)(hr:Rd n st fl st' outs):Lv (i+1) n st' (qrv outs n):=by
 obtain⟨G,fl',h1,hm,hg,hl,ht,hu,hs⟩:=h;obtain rfl:fl=fl':=qfs hf (fun f hx=>(hg f hx).fits hm hn) h1;have t:=hr.turn;obtain⟨hm',hg'⟩:=t.inv hm hg;have hlen:∀j,j<n->(outs j).length<=605:=fun j hj=>(hr j hj).2.len_le hm'.good hn (hm'.one j hj);obtain⟨e,hle⟩:=qfr hlen hn n (yb _);refine⟨G,_,e,hm',hg',by omega,fun _ _=>t.told,fun hi=>t.fulls hm hg (ht (by omega) (by omega)),fun hi=>?_⟩;by_cases h2:i=2
 ·exact t.settled hm hg (ht (by omega) (by omega)) (hu h2)
 ·exact t.settled_again hm hg (hs (by omega))
end
section
open Go.RowKit
open Go.Cr Go.Conc
open Go.Pm (Rely Perm Sup Ext Ev)
variable {n win P0 G0:Nat}{L:List (Nat × Obj)}{O K:Nat->Prop}{wa:World}{Post:Value->World->Prop}
def StopR(n win P0 G0:Nat)(Post:Value->World->Prop)(cf:Frame)(rest:List Frame):(Nat->Prop)->Goroutine->World->Prop:=fun OW g wC=>
 ∃ (c' : Frame) (m : Nat) (L' : List (Nat × Obj)), g = G (Frame.enter prog 28 #[pT G0 0] .normal) (c' :: cf :: rest) /\ Ms n win P0 G0 (fun st pl => Jn n st pl /\ pl.length = m) L' OW wC /\
   ∀Wg O' wa',Own O' (fun b=>b<2) wa'->Ms n win P0 G0 (Jn n) L' O' wa'->Main prog 148 Post Wg [] .free O' (fun b=>b<2) (G (c'.finish (.int .i64 m)) (cf::rest)) wa'
theorem qn6(hn:1<=n/\n<=6)(hK:∀b,b<2->K b)(h:Ms n win P0 G0 (Jn n) L O wa)(ho:Own O K wa)(a b c:Int)(t:ByteArray)(ha:I64 a){WgA:Nat}{cf:Frame}{rest:List Frame}
 (kont:∀Wg O' wa',Own O' (fun b=>b<2) wa'->Ms n win P0 G0 (Jn n) L O' wa'->Main prog 148 Post Wg [] .free O' (fun b=>b<2) (G (cf.finish (.bool true)) rest) wa') :
 Main prog 148 Post WgA [] .free O K (G (Frame.enter prog 27 #[pT P0 0,.agg #[.int .i64 10,.int .i64 a,.int .i64 b,.int .i64 c,.string t]] .normal) (cf::rest)) wa:=by
 have hA:∀w d,Al 148 WgA .free w->Al 148 WgA .free (w.at d):=fun w d h=>h;have part1:Go.Pm.Way prog true K (Al 148 WgA .free) (XS WgA .free) (StopR n win P0 G0 Post cf rest) O (G (Frame.enter prog 27 #[pT P0 0,.agg #[.int .i64 10,.int .i64 a,.int .i64 b,.int .i64 c,.string t]] .normal) (cf::rest)) wa:=by
  rw[enter_at _ Tryz.func27 rfl];simp only[Tryz.f27];walk_nrm;refine wN ?_;refine wR ?_;refine qbz (f:=fun _=>.cells (qrg 10 a b c t) 51) rfl rfl (by decide) (fun wC h₂=>⟨by go_simp,by simp[go_sem, *]⟩) fun wC h₂=>?_;walk_nrm;have hM:=(h.rely hK h₂).make (.cells (qrg 10 a b c t) 51);obtain⟨bx,hbx⟩:∃bx,bx=wC.heap.size:=⟨_,rfl⟩;rw[<-hbx] at hM ⊢;generalize wC.alloc (.cells (qrg 10 a b c t) 51)=w3 at hM ⊢;generalize (fun b=>O b\/b=bx)=O3 at hM ⊢;clear h h₂ hbx;refine wV (.bool false) ?_;walk_nrm;refine wN ?_;refine wN ?_;refine qcj mixed rfl hA ?_;refine qew (m:=7) (vals:=vals1 bx P0 n a) (I:=fun O w=>Ms n win P0 G0 (Jn n) ((bx,Obj.cells (qrg 10 a b c t) 51)::L) O w) (by kernel_rfl) ?_ ?_ O3 w3 hM
  ·intro i hi a' rest' O' w' hd ho hI hgo;obtain⟨sO,sc⟩:=hI.side (yY ..);obtain⟨sP, -⟩:=hI.cells;match i,hi with
   | 0, _ =>
     have e3:a'.tmps[3]?=some (pT bx 0):=(ho 3 (by decide)).trans (by simp);exact qb (v:=pT bx 1) rfl rfl (by decide) (fun wB h₁=>⟨by simp[go_sem,Array.getD_eq_getD_getElem?,e3],by simp[go_sem,Array.getD_eq_getD_getElem?,e3]⟩) (hgo O' w' hI)
   | 1, _ =>
     have e14:a'.tmps[14]?=some (pT bx 1):=hd 0 (by decide) 14 rfl;refine qb (v:=.int .i64 a) rfl rfl (by decide) (fun wB h₁=>?_) (hgo O' w' hI);have c1:wB.cell? (aT bx 1)=some (.int .i64 a):=((hI.rely hK h₁).side (yY ..)).2 1 _ rfl;exact⟨by simp[go_sem,Array.getD_eq_getD_getElem?,e14,c1],by simp[go_sem,Array.getD_eq_getD_getElem?,e14,c1];exact .inl sO⟩
   | 2, _ =>
     have e0:a'.tmps[0]?=some (pT P0 0):=(ho 0 (by decide)).trans (by simp);exact qb (v:=pT P0 0) rfl rfl (by decide) (fun wB h₁=>⟨by simp[go_sem,Array.getD_eq_getD_getElem?,e0],by simp[go_sem,Array.getD_eq_getD_getElem?,e0]⟩) (hgo O' w' hI)
   | 3, _ =>
     have e16:a'.tmps[16]?=some (pT P0 0):=hd 2 (by decide) 16 rfl;exact qb (v:=pT P0 0) rfl rfl (by decide) (fun wB h₁=>⟨by simp[go_sem,Array.getD_eq_getD_getElem?,e16],by simp[go_sem,Array.getD_eq_getD_getElem?,e16]⟩) (hgo O' w' hI)
   | 4, _ =>
     have e17:a'.tmps[17]?=some (pT P0 0):=hd 3 (by decide) 17 rfl;exact qb (v:=pT P0 1) rfl rfl (by decide) (fun wB h₁=>⟨by simp[go_sem,Array.getD_eq_getD_getElem?,e17],by simp[go_sem,Array.getD_eq_getD_getElem?,e17]⟩) (hgo O' w' hI)
   | 5, _ =>
     have e18:a'.tmps[18]?=some (pT P0 1):=hd 4 (by decide) 18 rfl;exact qb (v:=pT P0 1) rfl rfl (by decide) (fun wB h₁=>⟨by simp[go_sem,Array.getD_eq_getD_getElem?,e18],by simp[go_sem,Array.getD_eq_getD_getElem?,e18]⟩) (hgo O' w' hI)
   | 6, _ =>
     have e19:a'.tmps[19]?=some (pT P0 1):=hd 5 (by decide) 19 rfl;refine qb (v:=.int .i64 n) rfl rfl (by decide) (fun wB h₁=>?_) (hgo O' w' hI);obtain⟨-, -,c1, -⟩:=(hI.rely hK h₁).cells;exact⟨by simp[go_sem,Array.getD_eq_getD_getElem?,e19,c1],by simp[go_sem,Array.getD_eq_getD_getElem?,e19,c1];exact .inl sP⟩
  ·intro O' w' hI l hl;have hl':=qdg (L':=[[7,8]]) hl (by kernel_rfl);rw[yu] at hl';subst hl';simp only[finA,List.range,List.range.loop,List.foldl,dstOf,vals1];walk_nrm;have hp:=qb4 a n;refine wA Tryz.f34 ?_;walk_nrm;refine Ms.plain hI hK (f:=34) (args:=[.int .i64 a,.int .i64 n]) (v:=.int .i64 (pickN a n)) rfl rfl (by simp) (by simp) (fun w=>hp w ha hn.1 (by omega)) fun O4 w4 hI4=>?_;have hq:=qam a hn.1;generalize pickN a n=q at hq ⊢;clear hI hp hM;rw[yG];walk_nrm;generalize hl2:(bx,Obj.cells (qrg 10 a b c t) 51)::L=L2 at hI4;have hI:=hI4;clear hI4;subst hl2;refine wV (.int .i64 q) ?_;walk_nrm;repeat refine wN ?_
   refine wR ?_;refine wV (pT bx 0) ?_;walk_nrm;refine wX (.int .i64 10) ?_;walk_nrm;iterate 9 ((repeat refine wN ?_);refine wR ?_;refine wV (.bool false) ?_;walk_nrm;refine wV (.bool false) ?_;walk_nrm;(repeat refine wN ?_);refine wF ?_)
   repeat refine wN ?_
   refine wR ?_;iterate 2 (refine wV (.bool true) ?_;walk_nrm)
   repeat refine wN ?_
   refine wT ?_;repeat refine wN ?_
   refine wR ?_;iterate 3 (refine wV (pT P0 0) ?_;walk_nrm)
   refine wP (pT G0 0) ?_;walk_nrm;refine wA Tryz.f41 ?_;walk_nrm;refine Ms.call hI hK (f:=41) rfl rfl true (args:=[]) (by simp) (Q:=fun v st pl=>v=.int .i64 pl.length/\Jn n st pl) (fun w pp gb FG st pl h1 h2 h3 h4=>(qiv h3).mono fun e w' h=>⟨_,h.1,by simp,st,pl,by rw[h.2];exact⟨Chg.refl _ _,h3.wide Plus.sub⟩,rfl,h4⟩) fun v O5 w5 hI5=>?_;obtain⟨m,rfl,hI6⟩:∃m:Nat,v=.int .i64 m/\Ms n win P0 G0 (fun st pl=>Jn n st pl/\pl.length=m) ((bx,Obj.cells (qrg 10 a b c t) 51)::L) O5 w5:=by
    obtain⟨π,w,pp,gb,FG,st,pl,x1,x2,x3,x4,x5,x6,x7,x8,x9,x10⟩:=hI5;exact⟨pl.length,x9,π,w,pp,gb,FG,st,pl,x1,x2,x3,x4,x5,x6,x7,x8,x10,rfl⟩
   clear hI hI5;have hI:=hI6;clear hI6;rw[yG];walk_nrm;refine wV (.int .i64 m) ?_;walk_nrm;repeat refine wN ?_
   refine wR ?_;iterate 3 (refine wV (pT P0 0) ?_;walk_nrm)
   refine wP (pT G0 0) ?_;walk_nrm;refine wA Tryz.f28 ?_;walk_nrm;refine .stop fun wB h₁=>⟨_,m,_,rfl,hI.rely hK h₁,fun Wg O' wa' hown' hM=>?_⟩;refine Main.of_way (qff (Stop:=fun OW g wC=>g=G (cf.finish (.bool true)) rest/\Ms n win P0 G0 (Jn n) L OW wC) ?_ hown') (fun OW g wC hS=>?_)
   ·rw[yG];walk_nrm;refine wV (.int .i64 m) ?_;walk_nrm;repeat refine wN ?_
    refine wR ?_;iterate 2 (refine wV (.int .i64 m) ?_;walk_nrm)
    iterate 2 (refine wV (.bool true) ?_;walk_nrm)
    repeat refine wN ?_
    refine qc rfl (fun _=>stepG_ret') ?_;exact qq rfl rfl rfl rfl rfl (.stop fun w5 h5=>⟨rfl,(hM.less fun x hx=>y6 _ hx).rely (fun b hb=>hb) h5⟩)
   ·obtain⟨⟨rfl,hM2⟩,hown2⟩:=hS wC (.refl _ _ _ _);exact kont Wg OW wC hown2 hM2
 refine Main.of_way (qff part1 ho) (fun OW g wC hS=>?_);obtain⟨⟨c',m,L',rfl,hM,hkont⟩,hown⟩:=hS wC (.refl _ _ _ _);refine qgl (J:=fun st pl=>Jn n st pl/\pl.length=m) hn hK (fun st pl h=>h.1) hM hown fun Wg O' wa' m' hown' hM'=>?_;obtain rfl:m'=m:=by
  obtain⟨_,_,_,_,_,_,_,_,_,_,_,_,_,_,_,st,fl,outs,h1,h2,h3,h4⟩:=hM';have:=h1.2;rw[yL] at this;omega
 refine hkont Wg O' wa' hown' (hM'.imp fun st' pl' h=>?_);obtain⟨st,fl,outs,h1,h2, -,h4,rfl⟩:=h;exact(Lv.round hn.2 h1.1.lv h2 h4).jn
end
section
open Go.RowKit
variable {n i:Nat}{st:Nat->Pst}{pl:List Par}
theorem Lv.still(h:Lv i n st pl)(hi:3<=i)(hlen:∀j,j<n->((st j).kn.getD j []).length=n):∃R:List Int,R.length=n/\∀j,j<n->(st j).ms=[]/\(st j).kn.getD j []=R:=by
 obtain⟨G,fl, -,hm, -, -, -, -,hs⟩:=h;have hset:=hs hi;refine⟨(List.range n).map fun s=>Mo.cnt G s,by simp,fun j hj=>⟨hset.held hm hj,?_⟩⟩;refine ybp (by rw[hlen j hj];simp) fun s h1 h2=>?_;have hsn:s<n:=by rw[hlen j hj] at h1;exact h1
 have h3:Kn (st j).kn j s=Mo.cnt G s:=hset j hj j hj s hsn;have h4:Kn (st j).kn j s=((st j).kn.getD j [])[s]:=by
  show ((st j).kn.getD j []).getD s 0=_;rw[yj,yh h1];rfl
 rw[<-h4,h3];simp
theorem Lv.within(h:Lv i n st pl)(hi:3<=i){a b:Nat}(ha:a<n)(hb:b<n):∀x∈(st a).evs,isMsg x=true->x.view=0->∃(j:Nat) (y:Ev),(st b).evs[j]?=some y/\findR (st b).evs x=j/\y.text=x.text:=by
 obtain⟨G,fl, -,hm, -, -, -, -,hs⟩:=h;intro x hx _ hv;obtain⟨⟨e',he',hsrc,hseq⟩,hall⟩:=(hs hi).within hm ha hb (e:=x) hx;obtain⟨m, -, -,hev⟩:=(hm.one b hb).ev1 e' he';have hp:(isMsg e' && sameMsg e' x)=true:=by
  simp only[isMsg,sameMsg,yB,decide_eq_true_eq];exact⟨hev.kind,by rw[hev.view,hv],hsrc,hseq⟩
 have hlt:(st b).evs.findIdx (fun y=>isMsg y && sameMsg y x)<(st b).evs.length:=List.findIdx_lt_length.2 ⟨e',he',hp⟩;refine⟨(st b).evs.findIdx (fun y=>isMsg y && sameMsg y x),_,yh hlt,?_,?_⟩
 ·unfold findR;rw[if_pos hlt]
 ·have h2:=List.findIdx_getElem (w:=hlt);rw[yB] at h2;have h3:=of_decide_eq_true h2.2;exact hall _ (yaU hlt) h3.2.1 h3.2.2
end
section
open Go.RowKit
open Go.Cr Go.Conc
open Go.Pm (Rely Perm Sup Ext Ev)
theorem GX.rows{w:World}{FG:Nat->Prop}{gb n win lim:Nat}{st:Nat->Pst}{pl:List Par}(g:GX w FG gb n win lim st pl):∀j,j<n->((st j).kn.getD j []).length=n:=by
 obtain⟨pb,bl,Fp,Fn,nv,g, -⟩:=g;intro j hj;obtain⟨l,hlm,kb,mb,rbs,es,clk,ev,sv,p⟩:=g.proc j hj;obtain⟨r, -, -,hrl, -⟩:=p.row_at (q:=j) hj;exact hrl
theorem GX.evs{w:World}{FG:Nat->Prop}{gb n win lim:Nat}{st:Nat->Pst}{pl:List Par}(g:GX w FG gb n win lim st pl):∀j,j<n->(st j).evs.length<=100000:=by
 obtain⟨pb,bl,Fp,Fn,nv,g, -⟩:=g;intro j hj;have:=(g.ok j hj).1.bound;omega
variable {n win P0 G0 i:Nat}{L:List (Nat × Obj)}{O K:Nat->Prop}{A:World->Prop}{X:Event->Prop}{Stop:(Nat->Prop)->Goroutine->World->Prop}{wa waB:World}
theorem Ms.still(h:Ms n win P0 G0 (Lv i n) L O wa)(hi:3<=i)(hn:1<=n/\n<=6)(hK:∀b,b<2->K b){c:Frame}{rest:List Frame}
 (hk:∀O' wa',Ms n win P0 G0 (Lv i n) L O' wa'->Go.Pm.Way prog true K A X Stop O' (G (c.finish (.bool true)) rest) wa') :
 Go.Pm.Way prog true K A X Stop O (G (Frame.enter prog 29 #[pT P0 0] .normal) (c::rest)) wa:=by
 refine Ms.call h hK (f:=29) rfl rfl false (args:=[]) (by simp) (Q:=fun v st pl=>v=.bool true/\Lv i n st pl) (fun w pp gb FG st pl h1 h2 h3 h4=>?_) fun v O' wa' hM=>?_
 ·obtain⟨R,hR,hall⟩:=h4.still hi h3.rows;refine(qpl pp h1 h3 hn R hR hall).mono ?_;rintro e w' ⟨hb,rfl⟩;exact⟨_,rfl,by simp,st,pl,⟨Chg.of_below hb,(h3.below hb).wide Plus.sub⟩,rfl,h4⟩
 ·obtain rfl:v=.bool true:=by
   obtain⟨_,_,_,_,_,_,_,_,_,_,_,_,_,_,_,h,_⟩:=hM;exact h
  exact hk O' wa' (hM.imp fun _ _ h=>h.2)
def Mt(n i:Nat)(V:Value)(us:List Value)(L:List (Nat × Obj))(O:Nat->Prop)(wa:World):Prop:=
 ∃(π:Perm) (w:World) (base:Nat) (st:Nat->Pst) (pl:List Par) (v:Value) (vs:List Value),Gh π w wa O/\Sides L O π w.heap.size wa/\7<=base/\vs.length=n/\Told w base st v vs/\v.pm π=V/\vs.map (Value.pm π)=us/\Lv i n st pl/\∀j,j<n->(st j).evs.length<=100000
theorem Mt.rely{V:Value}{us:List Value}(h:Mt n i V us L O wa)(hK:∀b,b<2->K b)(hr:Rely O K A wa waB):Mt n i V us L O waB:=by
 obtain⟨π,w,base,st,pl,v,vs,h1,h2,h3⟩:=h;exact⟨π,w,base,st,pl,v,vs,h1.rely hK hr,h2.rely hr,h3⟩
theorem Ms.tales(h:Ms n win P0 G0 (Lv i n) L O wa)(hn:n<=6)(hK:∀b,b<2->K b){c:Frame}{rest:List Frame}
 (hk:∀V us O' wa',Mt n i V us L O' wa'->Go.Pm.Way prog true K A X Stop O' (G (c.finish (.tuple #[V,.bool true])) rest) wa') :
 Go.Pm.Way prog true K A X Stop O (G (Frame.enter prog 15 #[pT P0 0] .normal) (c::rest)) wa:=by
 obtain⟨π,w,pp,gb,FG,st,pl,h1,h2,rfl,h4,h5,h6,h7,h8,h9⟩:=h;have hpp:pp<w.heap.size:=BlkAt.lt h6;have hev:=h8.evs;refine qb2 hK h1 h2 (f:=15) rfl rfl (args:=#[pT pp 0]) (fun u hu=>?_) (by simp[Addr.pm]) (R:=fun e w'=>∃v,e=.returned (.tuple #[v,.bool true])/\∃vs:List Value,vs.length=n/\Told w' w.heap.size st v vs) (fun τ _=>?_) (fun e w' h=>?_) fun v w' π' wa' O' hR hg hL _ _ _=>?_
 ·simp only[yag,yF,yU,or_false] at hu;subst hu;exact qfp h5 hpp
 ·refine(qpk (w:=w.tp τ) pp h6 (h8.same rfl) hn hev).mono ?_;rintro e w' ⟨-,v,rfl,vs,h1,h2⟩;exact⟨v,rfl,vs,h1,h2⟩
 ·obtain⟨v,h, -⟩:=h;exact⟨_,h⟩
 ·obtain⟨u,e,vs,hl,ht⟩:=hR;injection e with e;subst e;have:=hk (u.pm π') (vs.map (Value.pm π')) O' wa' ⟨π',w',w.heap.size,st,pl,u,vs,hg,hL,by have:=h1.loose.low;exact this,hl,ht,rfl,rfl,h9,hev⟩;simpa using this
end
end Go.Proofs.YtoklolfaemhfnaaGreatDoor
