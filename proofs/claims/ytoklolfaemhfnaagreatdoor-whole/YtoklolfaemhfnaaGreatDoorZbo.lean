import Derived.Test.YtoklolfaemhfnaaGreatDoorZae
set_option maxRecDepth 100000
set_option maxHeartbeats 8000000
namespace Go.Pm
section
open Go Go.Conc
def FixS(F:Fam)(S:Nat->Prop)(σ:Perm):Prop:=(∀r,F.live r->S r->σ.f r=r)/\(∀f,F f=true->σ.g f=f)/\∀r,σ.f r<F.gs↔r<F.gs
def SupO(F:Fam)(S:Nat->Prop)(o:Obj):Prop:=∀σ,FixS F S σ->o.pm σ=o
def SupV(F:Fam)(S:Nat->Prop)(v:Value):Prop:=∀σ,FixS F S σ->v.pm σ=v
theorem FixS.mono{F:Fam}{S S':Nat->Prop}{σ:Perm}(h:FixS F S' σ)(hs:∀r,F.live r->S r->S' r):FixS F S σ:=⟨fun r hl hr=>h.1 r hl (hs r hl hr),h.2⟩
theorem SupO.mono{F:Fam}{S S':Nat->Prop}{o:Obj}(h:SupO F S o)(hs:∀r,F.live r->S r->S' r):SupO F S' o:=fun σ hσ=>h σ (hσ.mono hs)
theorem SupV.mono{F:Fam}{S S':Nat->Prop}{v:Value}(h:SupV F S v)(hs:∀r,F.live r->S r->S' r):SupV F S' v:=fun σ hσ=>h σ (hσ.mono hs)
theorem qng(n:Nat):∀(l:List Nat),l.Nodup->(∀b∈l,n<=b)->∃π:Perm,(∀r,r<n->π.f r=r)/\(∀i b,l[i]?=some b->π.f (n+i)=b)/\(∀f,π.g f=f)/\(∀x,π.h x=x)/\π.b=false:=by
 intro l;have key:∀(l r:List Nat),(l++r).Nodup->(∀b∈l++r,n<=b)->∀π:Perm,(∀r,r<n->π.f r=r)->(∀i b,l[i]?=some b->π.f (n+i)=b)->(∀f,π.g f=f)->(∀x,π.h x=x)->π.b=false->
  ∃π:Perm,(∀r,r<n->π.f r=r)/\(∀i b,(l++r)[i]?=some b->π.f (n+i)=b)/\(∀f,π.g f=f)/\(∀x,π.h x=x)/\π.b=false:=by
  intro l r;induction r generalizing l with
  |nil=>intro _ _ π h1 h2 h3 h4 h5;exact⟨π,h1,by simpa using h2,h3,h4,h5⟩
  | cons b r ih =>
    intro hnd hge π h1 h2 h3 h4 h5;have e:l++b::r=(l++[b])++r:=by simp
    rw[e] at hnd hge ⊢;have hb:b ∉ l:=by
     have:(l++[b]).Nodup:=(yaE.1 hnd).1;intro hx;exact(yaE.1 this).2.2 b hx b (by simp) rfl
    refine ih (l++[b]) hnd hge (π.swap (π.f (n+l.length)) b) (fun x hx=>?_) (fun i c hi=>?_) h3 h4 h5
    ·have hxx:=h1 x hx;show (if π.f x=π.f (n+l.length) then b else if π.f x=b then π.f (n+l.length) else π.f x)=x;rw[if_neg (fun e=>by have:=π.inj e;omega),hxx,if_neg];have:=hge b (by simp);omega
    ·show (if π.f (n+i)=π.f (n+l.length) then b else if π.f (n+i)=b then π.f (n+l.length) else π.f (n+i))=c;rcases yaX i l.length with hlt|rfl|hgt
     ·rw[y7 hlt] at hi;have hc:=h2 i c hi;rw[if_neg (fun e=>by have:=π.inj e;omega),hc,if_neg];intro e;subst e;exact hb (yy hi)
     ·rw[if_pos rfl];simpa using hi
     ·rw[List.getElem?_eq_none (by simp;omega)] at hi;cases hi
 intro hnd hge;simpa using key [] l (by simpa using hnd) (by simpa using hge) Perm.id (fun _ _=>rfl) (fun i b hi=>by simp at hi) (fun _=>rfl) (fun _=>rfl) rfl
theorem qio{F:Fam}{S S':Nat->Prop}{π σ:Perm}(hid:∀r,r<F.gs+5->π.f r=r)(hg:∀f,π.g f=f)(hS:∀r,F.live r->S r->∃k,F.live k/\S' k/\π.f k=r)(hσ:FixS F S' σ):FixS F S (π.comp (σ.comp π.inv)):=by
 have hi:∀r,r<F.gs+5->π.i r=r:=fun r hr=>by rw[<-hid r hr,π.if_,hid r hr]
 have hig:∀r,π.i r<F.gs↔r<F.gs:=fun r=>by
  constructor
  ·intro h;have:=hid (π.i r) (by omega);rw[π.fi] at this;omega
  ·intro h;rw[hi r (by omega)];exact h
 have hfg:∀r,π.f r<F.gs↔r<F.gs:=fun r=>by rw[<-hig (π.f r),π.if_]
 have hj:∀f,π.j f=f:=fun f=>by have:=π.jg f;rwa [hg] at this
 refine⟨fun r hl hr=>?_,fun f hf=>?_,fun r=>?_⟩
 ·obtain⟨k,h1,h2,rfl⟩:=hS r hl hr;show π.f (σ.f (π.i (π.f k)))=π.f k;rw[π.if_,hσ.1 k h1 h2]
 ·show π.g (σ.g (π.j f))=f;rw[hj,hσ.2.1 f hf,hg]
 ·show π.f (σ.f (π.i r))<F.gs↔r<F.gs;rw[hfg,hσ.2.2,hig]
theorem restrict{F:Fam}(wa:World)(l:List Nat)(hnd:l.Nodup)(hlive:∀b∈l,F.live b)(hlow:F.gs+5<=wa.heap.size)
 (hclosed:∀b∈l,∃o,wa.heap[b]?=some o/\SupO F (·∈l) o) :
 ∃(w:World) (π:Perm),Loose F π w wa/\Shut F w/\w.heap.size=F.gs+5+l.length/\(∀i b,l[i]?=some b->π.f (F.gs+5+i)=b)/\(∀b,b<F.gs+5->w.heap[b]?=wa.heap[b]?)/\(∀x,π.h x=x)/\w.tape=wa.tape/\w.drawn=wa.drawn:=by
 obtain⟨π,p1,p2,p3,p4,p5⟩:=qng (F.gs+5) l hnd hlive
 let f:Nat->Obj:=fun b=>((wa.heap[b]?).getD default).pm π.inv
 let w:World:={ wa with heap:=wa.heap.extract 0 (F.gs+5)++(l.map f).toArray }
 have hsz:w.heap.size=F.gs+5+l.length:=by simp[w];omega
 have hlo:∀b,b<F.gs+5->w.heap[b]?=wa.heap[b]?:=fun b hb=>by
  simp only[w];rw[Array.getElem?_append_left (by simp;omega)];rw[Array.getElem?_extract];simp;omega
 have hhi:∀i,w.heap[F.gs+5+i]?=(l[i]?).map f:=fun i=>by
  simp only[w];have e:(wa.heap.extract 0 (F.gs+5)).size=F.gs+5:=by simp;omega
  rw[Array.getElem?_append_right (by omega),e];simp
 have obj:∀(r:Nat) (o:Obj),F.live r->w.heap[r]?=some o->∃b oa,π.f r=b/\b∈l/\wa.heap[b]?=some oa/\o=oa.pm π.inv/\SupO F (·∈l) oa:=by
  intro r o hl hr;obtain⟨i,rfl⟩:∃i,r=F.gs+5+i:=⟨r - (F.gs+5),by have:F.gs+5<=r:=hl;omega⟩;rw[hhi] at hr;obtain⟨b,hb,rfl⟩:=yE.1 hr;have hm:=yy hb;obtain⟨oa,ho,hs⟩:=hclosed b hm;exact⟨b,oa,p2 i b hb,hm,ho,by simp[f,ho],hs⟩
 have back:∀oa:Obj,(oa.pm π.inv).pm π=oa:=fun oa=>by rw[obj_comp];exact qeg _ (Perm.idle_inv π) oa
 refine⟨w,π,⟨fun r o hl hr=>?_,p1,by omega,hlow,rfl,p3,p5⟩,⟨fun σ hσ r o hl hr=>?_⟩,hsz,p2,hlo,p4,rfl,rfl⟩
 ·obtain⟨b,oa,e,_,ho,rfl,_⟩:=obj r o hl hr;rw[e,ho,back]
 ·obtain⟨b,oa,e,hm,ho,rfl,hs⟩:=obj r o hl hr;have hfix:FixS F (·∈l) (π.comp (σ.comp π.inv)):=qio (S':=fun r=>r<w.heap.size) p1 p3 (fun r hl hr=>by
   obtain⟨i,hi⟩:=yaP.1 hr;refine⟨F.gs+5+i,by show F.gs+5<=_;omega,?_,p2 i r hi⟩;have:=(ym.1 hi).1;omega) ⟨fun r hl hr=>hσ.1 r hl hr,hσ.2.1,hσ.2.2⟩
  have:=hs _ hfix;rw[<-obj_comp,<-obj_comp] at this;have h2:=congrArg (Obj.pm π.inv) this;rw[obj_comp π.inv π,qeg _ (Perm.idle_inv' π)] at h2;exact h2
theorem Loose.supO{F:Fam}{π:Perm}{w wa:World}(h:Loose F π w wa)(hs:Shut F w){S:Nat->Prop}(hS:∀r,F.live r->r<w.heap.size->S (π.f r)){r:Nat}{o:Obj}(hl:F.live r)(hr:w.heap[r]?=some o):SupO F S (o.pm π):=by
 intro σ hσ;have hid:=h.ids;have hi:∀r,r<F.gs+5->π.i r=r:=fun r hr=>by rw[<-hid r hr,π.if_,hid r hr]
 have hlv:∀r,F.live r->F.live (π.f r):=fun r hr=>by
  show F.gs+5<=π.f r;refine Nat.le_of_not_lt fun hlt=>?_;have:=hi _ hlt;rw[π.if_] at this;have hr':F.gs+5<=r:=hr;omega
 have hlv':∀r,F.live r->F.live (π.i r):=fun r hr=>by
  show F.gs+5<=π.i r;refine Nat.le_of_not_lt fun hlt=>?_;have:=hid _ hlt;rw[π.fi] at this;have hr':F.gs+5<=r:=hr;omega
 have hfix:FixS F (fun r=>r<w.heap.size) (π.inv.comp (σ.comp π.inv.inv)):=qio (π:=π.inv) (S':=S) hi (fun f=>by show π.j f=f;have:=π.jg f;rwa [h.g] at this) (fun r hl hr=>⟨π.f r,hlv r hl,hS r hl hr,π.if_ r⟩) hσ;have:=hs.obj _ ⟨fun r hl hr=>hfix.1 r hl hr,hfix.2.1,hfix.2.2⟩ r o hl hr;rw[<-obj_comp,<-obj_comp] at this;have h2:=congrArg (Obj.pm π) this;rw[obj_comp π π.inv,qeg _ (Perm.idle_inv π)] at h2;exact h2
theorem obj_back{π:Perm}{o o':Obj}(h:o.pm π=o'):o=o'.pm π.inv:=by rw[<-h,obj_comp,qeg _ (Perm.idle_inv' π)]
theorem qkv{F:Fam}{π:Perm}{w wa:World}(h:Loose F π w wa)(r:Nat):π.f r<F.gs↔r<F.gs:=by
 constructor
 ·intro hr;have:=h.ids (π.f r) (by omega);have:=π.inj this;omega
 ·intro hr;rw[h.ids r (by omega)];exact hr
theorem qnh{F:Fam}{π:Perm}{w wa:World}(h:Loose F π w wa)(r:Nat):π.i r<F.gs↔r<F.gs:=by rw[<-qkv h (π.i r),π.fi]
theorem loose_live{F:Fam}{π:Perm}{w wa:World}(h:Loose F π w wa){r:Nat}(hr:F.live r):F.live (π.f r):=by
 show F.gs+5<=π.f r;refine Nat.le_of_not_lt fun hlt=>?_;have:=π.inj (h.ids (π.f r) hlt);have hr':F.gs+5<=r:=hr;omega
theorem merge{F:Fam}{π:Perm}{w wa wa':World}(h:Loose F π w wa)(hs:Shut F w)(hlow:F.gs+5<=wa'.heap.size){n:Nat}{W:Nat->World}{Ps:Nat->Perm}(hp:∀i,i<n->Loose F (Ps i) (W i) wa'/\Shut F (W i)){Kept:Nat->Prop}
 (hk:∀r o,F.live r->Kept r->w.heap[r]?=some o->wa'.heap[π.f r]?=some (o.pm π)) (hnk:∀r,F.live r->r<w.heap.size->¬Kept r->∃i k,i<n/\F.live k/\k<(W i).heap.size/\(Ps i).f k=π.f r) :
 ∃ (w'' : World) (π'' : Perm), Loose F π'' w'' wa' /\ Shut F w'' /\ w.heap.size <= w''.heap.size /\ (∀ r, r < w.heap.size -> π''.f r = π.f r) /\ (∀ r, r < F.gs + 5 -> w''.heap[r]? = wa'.heap[r]?) /\
   (∀r,F.live r->r<w.heap.size->Kept r->w''.heap[r]?=w.heap[r]?)/\
   (∀i,i<n->∀k o,F.live k->(W i).heap[k]?=some o->w''.heap[(π''.inv.comp (Ps i)).f k]?=some (o.pm (π''.inv.comp (Ps i))))/\
   (∀r,F.live r->r<w''.heap.size->(r<w.heap.size/\Kept r)\/∃i k,i<n/\F.live k/\k<(W i).heap.size/\(Ps i).f k=π''.f r)/\(∀x,π''.h x=x):=by
 have hfst:∀i b,((List.range' (F.gs+5) (w.heap.size - (F.gs+5))).map π.f)[i]?=some b->b=π.f (F.gs+5+i)/\F.gs+5+i<w.heap.size:=by
  intro i b hi;rw[yZ] at hi;obtain⟨x,hx,rfl⟩:=yE.1 hi;obtain⟨hlt,e⟩:=ym.1 hx;simp at hlt e;subst e;exact⟨rfl,by omega⟩
 let fst:=(List.range' (F.gs+5) (w.heap.size - (F.gs+5))).map π.f
 have hlen:fst.length=w.heap.size - (F.gs+5):=by simp[fst]
 have hmem:∀r,F.live r->r<w.heap.size->π.f r∈fst:=fun r hl hr=>yW.2 ⟨r,by rw[List.mem_range'_1];have:F.gs+5<=r:=hl;omega,rfl⟩;have hmem':∀b,b∈fst->∃r,F.live r/\r<w.heap.size/\b=π.f r:=fun b hb=>by
  obtain⟨r,hr,rfl⟩:=yW.1 hb;rw[List.mem_range'_1] at hr;exact⟨r,by show F.gs+5<=r;omega,by omega,rfl⟩
 let InP:Nat->Prop:=fun b=>∃i k,i<n/\F.live k/\k<(W i).heap.size/\(Ps i).f k=b
 let new:=(List.range wa'.heap.size).filter (fun b=>@decide (InP b/\b ∉ fst) (Classical.propDecidable _))
 have hnew:∀b,b∈new↔b<wa'.heap.size/\InP b/\b ∉ fst:=fun b=>by simp[new]
 have hnd:(fst++new).Nodup:=by
  rw[yaE];refine⟨?_,List.Pairwise.filter _ List.nodup_range,fun a ha b hb e=>?_⟩
  ·exact List.Pairwise.map _ (fun a b hab e=>hab (π.inj e)) (List.nodup_range' (s:=F.gs+5) (n:=w.heap.size - (F.gs+5)) (step:=1) (by omega))
  ·subst e;exact((hnew a).1 hb).2.2 ha
 have hpobj:∀b,InP b->∃i k o,i<n/\F.live k/\(W i).heap[k]?=some o/\(Ps i).f k=b/\wa'.heap[b]?=some (o.pm (Ps i)):=by
  rintro b ⟨i,k,hi,hl,hk',e⟩;have ho:=yl hk';exact⟨i,k,_,hi,hl,ho,e,by rw[<-e];exact(hp i hi).1.obj k _ hl ho⟩
 have hin:∀b,InP b->b∈fst++new:=fun b hb=>by
  obtain⟨_,_,o,_,_,_,_,ho⟩:=hpobj b hb;by_cases hf:b∈fst
  ·exact List.mem_append_left _ hf
  ·exact List.mem_append_right _ ((hnew b).2 ⟨(yk.1 ho).1,hb,hf⟩)
 have hcl:∀b∈fst++new,∃o,wa'.heap[b]?=some o/\SupO F (·∈fst++new) o:=by
  have part:∀b,InP b->∃o,wa'.heap[b]?=some o/\SupO F (·∈fst++new) o:=fun b hb=>by
   obtain⟨i,k,o,hi,hl,hko,e,ho⟩:=hpobj b hb;exact⟨_,ho,(hp i hi).1.supO (hp i hi).2 (fun r hr hlt=>hin _ ⟨i,r,hi,hr,hlt,rfl⟩) hl hko⟩
  intro b hb;rcases yz.1 hb with hb|hb
  ·obtain⟨r,hl,hr,rfl⟩:=hmem' b hb;by_cases hkr:Kept r
   ·have ho:=yl hr;exact⟨_,hk r _ hl hkr ho,h.supO hs (fun r hr hlt=>List.mem_append_left _ (hmem r hr hlt)) hl ho⟩
   ·obtain⟨i,k,h1,h2,h3,h4⟩:=hnk r hl hr hkr;exact part _ ⟨i,k,h1,h2,h3,h4⟩
  ·exact part b ((hnew b).1 hb).2.1
 have hlv:∀b∈fst++new,F.live b:=fun b hb=>by
  rcases yz.1 hb with hb|hb
  ·obtain⟨r,hl,_,rfl⟩:=hmem' b hb;exact loose_live h hl
  ·obtain⟨i,k,hi,hl,_,rfl⟩:=((hnew b).1 hb).2.1;exact loose_live (hp i hi).1 hl
 obtain⟨w'',π'',hL,hS,hsz,hπ,hlo,hh,_,_⟩:=restrict wa' (fst++new) hnd hlv hlow hcl;have hlw:=h.low;have hπ':∀r,r<w.heap.size->π''.f r=π.f r:=fun r hr=>by
  by_cases hlt:r<F.gs+5
  ·rw[hL.ids r hlt,h.ids r hlt]
  ·have e:(fst++new)[r - (F.gs+5)]?=some (π.f r):=by
    rw[y7 (by rw[hlen];omega)];simp only[fst,yZ];rw[List.getElem?_range' (by omega)];simp;congr 1;omega
   have:=hπ _ _ e;rwa [show F.gs+5+(r - (F.gs+5))=r by omega] at this
 refine⟨w'',π'',hL,hS,by rw[hsz,yC,hlen];omega,hπ',hlo,fun r hl hr hkr=>?_,fun i hi k o hl hko=>?_,fun r hl hr=>?_,hh⟩
 ·have ho:=yl hr;have hr'':r<w''.heap.size:=by rw[hsz,yC,hlen];omega
  have ho'':=yl hr'';have e1:=hL.obj r _ hl ho'';rw[hπ' r hr,hk r _ hl hkr ho] at e1;injection e1 with e1;have e2:=obj_back e1.symm;rw[obj_comp] at e2;rw[ho'',ho,e2];congr 1;refine hs.obj _ ⟨fun x hx hxn=>?_,fun f _=>?_,fun x=>?_⟩ r _ hl ho
  ·show π''.i (π.f x)=x;rw[<-hπ' x hxn,π''.if_]
  ·show π''.j (π.g f)=f;rw[h.g];have:=π''.jg f;rwa [hL.g] at this
  ·show π''.i (π.f x)<F.gs↔x<F.gs;rw[qnh hL,qkv h]
 ·have hkl:k<(W i).heap.size:=(yk.1 hko).1;obtain⟨idx,hidx⟩:=yaP.1 (hin _ ⟨i,k,hi,hl,hkl,rfl⟩);have hb:=hπ idx _ hidx;have hlt:F.gs+5+idx<w''.heap.size:=by rw[hsz];have:=(ym.1 hidx).1;omega
  have ho'':=yl hlt;have e1:=hL.obj _ _ (by show F.gs+5<=_;omega) ho'';rw[hb,(hp i hi).1.obj k o hl hko] at e1;injection e1 with e1;have e2:=obj_back e1.symm;rw[obj_comp] at e2;have e3:(π''.inv.comp (Ps i)).f k=F.gs+5+idx:=by
   show π''.i ((Ps i).f k)=_;rw[<-hb,π''.if_]
  rw[e3,ho'',e2]
 ·obtain⟨idx,rfl⟩:∃idx,r=F.gs+5+idx:=⟨r - (F.gs+5),by have:F.gs+5<=r:=hl;omega⟩;have hidx:idx<(fst++new).length:=by omega
  have he:=yh hidx;have hb:=hπ idx _ he;by_cases hlt:F.gs+5+idx<w.heap.size
  ·by_cases hkr:Kept (F.gs+5+idx)
   ·exact .inl ⟨hlt,hkr⟩
   ·obtain⟨i,k,h1,h2,h3,h4⟩:=hnk _ hl hlt hkr;exact .inr ⟨i,k,h1,h2,h3,by rw[h4,hπ' _ hlt]⟩
  ·have hm:(fst++new)[idx]∈new:=by
    rw[List.getElem_append_right (by rw[hlen];omega)];exact yaU _
   obtain⟨i,k,h1,h2,h3,h4⟩:=((hnew _).1 hm).2.1;exact .inr ⟨i,k,h1,h2,h3,by rw[h4,hb]⟩
end
end Go.Pm
