import Derived.Test.YtoklolfaemhfnaaGreatDoorZbi
import Derived.Test.YtoklolfaemhfnaaGreatDoorZbn
import Derived.Test.YtoklolfaemhfnaaGreatDoorZbo
set_option maxRecDepth 100000
set_option maxHeartbeats 8000000
namespace Go.Proofs.YtoklolfaemhfnaaGreatDoor
section
open Go.RowKit
open Go.Pm (Perm Fam SupO SupV FixS Loose Shut)
def Along(ρ:Perm)(F:Nat->Prop)(w w2:World):Prop:=∀r o,F r->w.heap[r]?=some o->w2.heap[ρ.f r]?=some (o.pm ρ)
def Img(ρ:Perm)(F:Nat->Prop):Nat->Prop:=fun x=>F (ρ.i x)
section
variable {ρ:Perm}{F:Nat->Prop}{w w2:World}
theorem Img.of{r:Nat}(h:F r):Img ρ F (ρ.f r):=by
 rw[Img,ρ.if_];exact h
theorem BlkAt.along(al:Along ρ F w w2){b:Nat}(hF:F b){t:TypeId}{cs:Array Value}(h:BlkAt w b t cs):BlkAt w2 (ρ.f b) t (cs.map (Value.pm ρ)):=al b _ hF h
theorem qpz(v:Value):(v.pm ρ).ownBlock=v.ownBlock.map ρ.f:=by
 cases v with
 |slice a l c=>cases a <;> simp[Value.ownBlock,Addr.pm]
 |_=>simp[Value.ownBlock]
theorem qcm{xs:List Value}(hx:∀x∈xs,x.pm ρ=x):xs.map (Value.pm ρ)=xs:=by
 have:=ya1 (f:=Value.pm ρ) (g:=id) (l:=xs) hx;rw[this,List.map_id]
theorem qip(l:List Int):∀x∈ints l,x.pm ρ=x:=by
 intro x hx;obtain⟨y, -,rfl⟩:=yW.1 hx;simp
theorem qqt(l:List Ev):∀x∈evCells l,x.pm ρ=x:=by
 intro x hx;obtain⟨y, -,hy⟩:=yaL.1 hx;simp only[Ev.cells,yF,yU,or_false] at hy;rcases hy with rfl|rfl|rfl|rfl|rfl|rfl <;> simp
theorem qo8(l:List Par):∀x∈parCells l,x.pm ρ=x:=by
 intro x hx;obtain⟨y, -,hy⟩:=yaL.1 hx;simp only[yF,yU,or_false] at hy;rcases hy with rfl|rfl <;> simp
theorem Row.along(al:Along ρ F w w2){e:TypeId}{sz:Nat}{v:Value}{n:Nat}{xs:List Value}(hx:∀x∈xs,x.pm ρ=x)(r:Row w F e sz v n xs):Row w2 (Img ρ F) e sz (v.pm ρ) n xs:=by
 refine⟨⟨r.row.1,?_⟩,fun g hg=>?_⟩
 ·rcases r.row.2 with ⟨h0,h1⟩|⟨g,cap,cur,h0, -,hc,h1,h2,h3,h4⟩
  ·exact .inl ⟨by rw[h0];simp,h1⟩
  ·refine .inr ⟨ρ.f g,cap,cur.map (Value.pm ρ),by rw[h0];simp[Addr.pm],yaA _,al g _ (r.foot g (by rw[h0];rfl)) hc,h1,h2,by simpa using h3,?_⟩;rw[yV,<-List.map_take,h4];exact qcm hx
 ·rw[qpz] at hg;obtain⟨g0,h0,rfl⟩:=yE.1 hg;exact Img.of (r.foot g0 h0)
theorem KnownAt.along(al:Along ρ F w w2){n kb:Nat}{rbs:List Nat}{kn:List (List Int)}(hk:F kb)(hr:∀r∈rbs,F r)(k:KnownAt w n kb rbs kn):KnownAt w2 n (ρ.f kb) (rbs.map ρ.f) kn:=by
 refine⟨by rw[yL];exact k.len,k.klen,List.Pairwise.map _ (fun a b hab e=>hab (ρ.inj e)) k.nodup,?_,fun q r l h1 h2=>?_⟩
 ·have:=BlkAt.along al hk k.top;rw[yas,yaD] at this;rw[yaD];have e:(Value.pm ρ ∘ fun r=>Value.slice (some ⟨r,0,none⟩) n n)=((fun r=>Value.slice (some ⟨r,0,none⟩) n n) ∘ ρ.f):=by
   funext r;simp[Addr.pm]
  rw[e] at this;exact this
 ·rw[yZ] at h1;obtain⟨r0,h0,rfl⟩:=yE.1 h1;have:=k.rows q r0 l h0 h2;refine⟨this.1,?_⟩;have h3:=BlkAt.along al (hr r0 (yy h0)) this.2;rw[yas,qcm (qip l)] at h3;exact h3
theorem MapOf.along{es:Array MapEntry}{clk:Nat}{l:Msgs}(m:MapOf es clk l):MapOf (es.map (MapEntry.pm ρ)) clk (l.map fun x=>(x.1,x.2.pm ρ)):=by
 refine⟨?_,?_,?_,fun e he=>?_⟩
 ·have:=congrArg (List.map (Value.pm ρ)) m.key;simp only[yaD] at this;simp only[yV,yaD];refine Eq.trans ?_ (this.trans ?_)
  ·rfl
  ·refine ya1 fun x _=>?_;simp[keyV]
 ·have:=congrArg (List.map (Value.pm ρ)) m.val;simp only[yaD] at this;simp only[yV,yaD];refine Eq.trans ?_ (this.trans ?_)
  ·rfl
  ·refine ya1 fun x _=>?_;simp[msgV]
 ·simp only[yV,yaD];exact m.born
 ·rw[yV] at he;obtain⟨e0,h0,rfl⟩:=yW.1 he;exact m.old e0 h0
theorem qrj.along{l:Msgs}(k:qrj l):qrj (l.map fun x=>(x.1,x.2.pm ρ)):=List.Pairwise.map _ (fun _ _ h=>h) k
variable {b:Nat}{h:Hd}{kn:List (List Int)}{l:Msgs}{evs:List Ev}{snt:List Par}{kb mb:Nat}{rbs:List Nat}{es:Array MapEntry}{clk:Nat}{ev sv:Value}
def HdFlat(h:Hd):Prop:=∀ρ:Perm,h.vcut.pm ρ=h.vcut/\h.lead.pm ρ=h.lead/\h.left.pm ρ=h.left
theorem PA.along(al:Along ρ F w w2)(hh:HdFlat h)(p:PA w F b h kn l evs snt kb mb rbs es clk ev sv):PA w2 (Img ρ F) (ρ.f b) h kn (l.map fun x=>(x.1,x.2.pm ρ)) evs snt (ρ.f kb) (ρ.f mb) (rbs.map ρ.f) (es.map (MapEntry.pm ρ)) clk (ev.pm ρ) (sv.pm ρ) where
 blk:=by
  have:=BlkAt.along al p.fb p.blk;simpa[Hd.cells,(hh ρ).1,(hh ρ).2.1,(hh ρ).2.2,Addr.pm] using this
 known:=p.known.along al p.fk p.fr
 map:=al mb _ p.fm p.map
 mo:=p.mo.along
 apart:=p.apart.along
 times:=fun x hx=>by
  obtain⟨y,hy,rfl⟩:=yW.1 hx;refine⟨(p.times y hy).1.along al (qip _),fun g hg=>?_⟩;simp only[qpz] at hg;obtain⟨g0,h0,rfl⟩:=yE.1 hg;intro hm;obtain⟨r,hr,e⟩:=yW.1 hm;rw[ρ.inj e] at hr;exact(p.times y hy).2 g0 h0 hr
 event:=p.event.along al (qqt _)
 sent:=p.sent.along al (qo8 _)
 fb:=Img.of p.fb
 fk:=Img.of p.fk
 fm:=Img.of p.fm
 fr:=fun r hr=>by
  obtain⟨r0,h0,rfl⟩:=yW.1 hr;exact Img.of (p.fr r0 h0)
theorem PX.along(al:Along ρ F w w2)(hh:HdFlat h){ms:List Codec.Msg}(p:PX w F b h kn ms evs snt):PX w2 (Img ρ F) (ρ.f b) h kn ms evs snt:=by
 obtain⟨l,rfl,kb,mb,rbs,es,clk,ev,sv,q⟩:=p;have:=(q.along al hh).px;rw[yaD] at this;exact this
end
end
section
open Go.RowKit
open Go.Pm (Perm Fam SupO SupV FixS Loose Sup Inside Ran Sim restrict loose_live obj_back frame_calls)
open Go.Cr (fam Tabs leafLaw progOk)
structure Cl (w:World) (F:Nat->Prop):Prop where
 tab:Tabs w
 low:7<=w.heap.size
 obj:∀x,F x->7<=x/\∃o,w.heap[x]?=some o/\SupO fam F o
section
variable {w w':World}{F:Nat->Prop}
theorem Cl.lt(c:Cl w F){x:Nat}(hx:F x):x<w.heap.size:=by
 obtain⟨-,o,ho, -⟩:=c.obj x hx;exact(yk.1 ho).1
theorem qae(h:Tabs w)(hlo:∀x,x<7->w'.heap[x]?=w.heap[x]?):Tabs w':=leafLaw.loc w w' (fun b hb=>hlo b (yg hb (by decide))) h
theorem Cl.kept(c:Cl w F)(hF:∀x,F x->w'.heap[x]?=w.heap[x]?)(hlo:∀x,x<7->w'.heap[x]?=w.heap[x]?)(hsz:w.heap.size<=w'.heap.size):Cl w' F:=
 ⟨qae c.tab hlo,yr c.low hsz,fun x hx=>by
  obtain⟨h10,o,ho,hs⟩:=c.obj x hx;exact⟨h10,o,(hF x hx).trans ho,hs⟩⟩
theorem Cl.below(c:Cl w F)(hb:Below w.heap.size w w'):Cl w' F:=c.kept (fun x hx=>hb.block x (c.lt hx)) (fun x hx=>hb.block x (yg hx c.low)) hb.size
theorem Cl.of_loose{π:Perm}{ws:World}(h:Loose fam π ws w)(hs:Go.Pm.Shut fam ws)(ht:Tabs w):Cl w (fun x=>∃r,7<=r/\r<ws.heap.size/\π.f r=x):=by
 refine⟨ht,h.lowa,fun x hx=>?_⟩;obtain⟨r,h10,hr,rfl⟩:=hx;refine⟨loose_live h h10,_,h.obj r _ h10 (yl hr),h.supO hs (fun r' hl hr'=>⟨r',hl,hr',rfl⟩) h10 (yl hr)⟩
theorem Cl.small(c:Cl w F):∃(ws:World) (π:Perm),Loose fam π ws w/\Go.Pm.Shut fam ws/\Tabs ws/\Inside Tryz.prog fam π ws w/\(∀r,7<=r->r<ws.heap.size->F (π.f r))/\(∀x,F x->7<=π.i x/\π.i x<ws.heap.size)/\Along π.inv F w ws/\(∀x,π.h x=x):=by
 let l:=(List.range w.heap.size).filter (fun b=>@decide (F b) (Classical.propDecidable _))
 have hm:∀b,b∈l↔b<w.heap.size/\F b:=fun b=>by simp[l]
 have hnd:l.Nodup:=List.Pairwise.filter _ List.nodup_range;obtain⟨ws,π,hL,hS,hsz,hπ,hlo,hh,ht,hd⟩:=restrict (F:=fam) w l hnd (fun b hb=>(c.obj b ((hm b).1 hb).2).1) c.low (fun b hb=>by
  obtain⟨-,o,ho,hs⟩:=c.obj b ((hm b).1 hb).2;exact⟨o,ho,hs.mono fun r _ hr=>(hm r).2 ⟨c.lt hr,hr⟩⟩)
 have hidx:∀x,F x->7<=π.i x/\π.i x<ws.heap.size:=fun x hx=>by
  obtain⟨i,hi⟩:=yaP.1 ((hm x).2 ⟨c.lt hx,hx⟩);have e:=hπ i x hi;have hil:=(ym.1 hi).1;have e2:π.i x=fam.gs+5+i:=by rw[<-e,π.if_]
  have e3:fam.gs+5=7:=rfl;rw[e2,hsz,e3];omega
 refine⟨ws,π,hL,hS,qae c.tab (fun x hx=>hlo x hx),⟨⟨hL.obj,hL.ids,hL.low,hL.lowa,hL.os,fun i q=>by rw[ht,hd]⟩,hS,hL.g,hL.b⟩,fun r h10 hr=>?_,hidx,fun r o hr ho=>?_,hh⟩
 ·have e3:fam.gs+5=7:=rfl;rw[hsz,e3] at hr;obtain⟨b,hb⟩:∃b,l[r - 7]?=some b:=⟨_,yh (by omega)⟩;have e:=hπ (r - 7) b hb;rw[e3,show 7+(r - 7)=r by omega] at e;rw[e];exact((hm b).1 (yy hb)).2
 ·obtain⟨h10,hlt⟩:=hidx r hr;have h1:=hL.obj (π.i r) _ h10 (yl hlt);rw[π.fi,ho] at h1;have h2:(ws.heap[π.i r]'hlt).pm π=o:=by
   injection h1 with h1;exact h1.symm
  show ws.heap[π.i r]?=_;rw[yl hlt,obj_back h2]
def PC(w:World)(F:Nat->Prop)(b:Nat)(h:Hd)(kn:List (List Int))(ms:List Codec.Msg)(evs:List Ev)(snt:List Par):Prop:=∃F1:Nat->Prop,(∀x,F1 x->F x)/\PX w F1 b h kn ms evs snt/\Cl w F1
variable {b:Nat}{h:Hd}{kn:List (List Int)}{ms:List Codec.Msg}{evs:List Ev}{snt:List Par}
theorem PC.wide(p:PC w F b h kn ms evs snt){F':Nat->Prop}(hF:∀x,F x->F' x):PC w F' b h kn ms evs snt:=by
 obtain⟨F1,h1,h2⟩:=p;exact⟨F1,fun x hx=>hF x (h1 x hx),h2⟩
theorem PC.below(p:PC w F b h kn ms evs snt)(hb:Below w.heap.size w w'):PC w' F b h kn ms evs snt:=by
 obtain⟨F1,h1,h2,h3⟩:=p;exact⟨F1,h1,h2.below hb,h3.below hb⟩
theorem lift{f:FuncId}(hf:fam f=true)(hlf:fam.leaf f=false)(hh:HdFlat h)(args:List Value)(hargs:∀v∈args,∀ρ:Perm,v.pm ρ=v){Post:Value->List (List Int)->List Codec.Msg->List Ev->List Par->Prop}
 (hc:∀w0 F0 b0,PX w0 F0 b0 h kn ms evs snt->(∀x,F0 x->x<w0.heap.size)->Calls Tryz.prog f (Value.pointer (some ⟨b0,0,none⟩)::args).toArray w0 fun e w1=>∃v,e=.returned v/\(∀ρ:Perm,v.pm ρ=v)/\∃kn' ms' evs' snt',PX w1 (Plus F0 w0) b0 h kn' ms' evs' snt'/\Post v kn' ms' evs' snt')
 (p:PX w F b h kn ms evs snt) (c:Cl w F) (hb:F b) :
 Calls Tryz.prog f (Value.pointer (some ⟨b,0,none⟩)::args).toArray w fun e w1=>∃v,e=.returned v/\Chg F w w1/\∃kn' ms' evs' snt',PC w1 (Plus F w) b h kn' ms' evs' snt'/\Post v kn' ms' evs' snt':=by
 obtain⟨ws,π,hL,hS,hT,hI,hto,hfrom,hal, -⟩:=c.small;have hp0:=p.along hal hh;have hF0:∀x,Img π.inv F x->x<ws.heap.size:=fun x hx=>by
  have:F (π.f x):=hx;have h1:=(hfrom _ this).2;rwa [π.if_] at h1
 have hcalls:=hc ws (Img π.inv F) (π.i b) hp0 hF0;have hib:=hfrom b hb;have h0:=frame_calls progOk leafLaw hI hT c.tab hf hlf (args:=(Value.pointer (some ⟨π.i b,0,none⟩)::args).toArray) (fun v hv=>by
  rw[yag] at hv;rcases yF.1 hv with rfl|hv
  ·intro σ hσ;have:σ.f (π.i b)=π.i b:=hσ.1 _ hib.1 hib.2;simp[Addr.pm,this]
  ·intro σ _;exact hargs v hv σ) hcalls (fun e w1 h1=>by
  obtain⟨v,h2, -⟩:=h1;exact⟨v,h2⟩)
 have hargs2:((Value.pointer (some ⟨π.i b,0,none⟩)::args).toArray.map (Value.pm π))=(Value.pointer (some ⟨b,0,none⟩)::args).toArray:=by
  rw[yas,yN,qcm fun v hv=>hargs v hv π];simp[Addr.pm,π.fi]
 rw[hargs2] at h0;refine h0.mono ?_;rintro e w1 ⟨v,w2,π',rfl,⟨v',hv',hvf,kn',ms',evs',snt',hp',hpost⟩,hr, -⟩;obtain rfl:v=v':=by
  injection hv'
 have hl':Loose fam π' w2 w1:=⟨hr.sim.obj,hr.sim.ids,hr.sim.low,hr.sim.lowa,hr.sim.os,fun f=>by rw[hr.rest.1];exact hL.g f,hr.rest.2.2.trans hL.b⟩;have hlo:∀x,x<7->w1.heap[x]?=w.heap[x]?:=fun x hx=>hr.frame x (yg hx c.low) fun r h10 _ e=>by
  have:=loose_live hL h10;have:7<=π.f r:=this;omega
 refine⟨v,by rw[hvf],⟨hr.sim.os.trans (hr.os.trans hL.os.symm),hr.tapea,hr.outa,hr.growa,fun k hk hn=>hr.frame k hk fun r h10 hlt e=>hn (e▸hto r h10 hlt)⟩,kn',ms',evs',snt',⟨fun x=>∃r,7<=r/\r<w2.heap.size/\π'.f r=x,fun x hx=>?_,?_,Cl.of_loose hl' hr.shut (qae c.tab hlo)⟩,hpost⟩
 ·obtain⟨r,h10,hlt,rfl⟩:=hx;by_cases hc:r<ws.heap.size
  ·rw[hr.same r hc];exact .inl (hto r h10 hc)
  ·exact .inr (hr.fresh r (by omega) hlt)
 ·have hq:=hp'.clip;have hlv:∀r,(Plus (Img π.inv F) ws r/\r<w2.heap.size)->7<=r:=fun r hx=>by
   rcases hx.1 with h1|h1
   ·have h2:=(hfrom _ (show F (π.f r) from h1)).1;rwa [π.if_] at h2
   ·have:7<=ws.heap.size:=hL.low;omega
  have:=hq.along (ρ:=π') (w2:=w1) (fun r o hx ho=>hr.sim.obj r o (hlv r hx) ho) hh;rw[show π'.f (π.i b)=b by rw[hr.same _ hib.2,π.fi]] at this;exact this.wide fun x hx=>⟨π'.i x,hlv _ hx,hx.2,π'.fi x⟩
end
end
section
open Go.RowKit
open Go.Pm (Perm Loose frame_calls loose_live)
open Go.Cr (fam Tabs leafLaw progOk)
section
variable {w w':World}{F:Nat->Prop}{b:Nat}{h:Hd}{kn:List (List Int)}{ms:List Codec.Msg}{evs:List Ev}{snt:List Par}
theorem PX.foot(p:PX w F b h kn ms evs snt):F b:=by
 obtain⟨l,rfl,kb,mb,rbs,es,clk,ev,sv,q⟩:=p;exact q.fb
theorem tickC(hc:CalmHd h)(hh:HdFlat h)(p:PX w F b h kn ms evs snt)(c:Cl w F)(o:Ok h kn ms evs)(hmf:∀m∈ms,Codec.msgFits m=true)(hs:snt.length<=100000) :
 Calls Tryz.prog 71 #[pT b 0] w fun e w'=>e=.returned (J 0)/\Chg F w w'/\∃out,PC w' (Plus F w) b h kn ms evs (snt++out.map par)/\Mo.Outs h.n h.num (mp kn ms evs) out:=by
 refine(lift (f:=71) rfl rfl hh [] (by simp) (Post:=fun v kn' ms' evs' snt'=>v=J 0/\kn'=kn/\ms'=ms/\evs'=evs/\∃out,snt'=snt++out.map par/\Mo.Outs h.n h.num (mp kn ms evs) out) (fun w0 F0 b0 p0 h0=>?_) p c p.foot).mono ?_
 ·refine(qnc hc p0 h0 o hmf hs).mono ?_;rintro e w1 ⟨rfl, -,out,hp,ho⟩;exact⟨_,rfl,fun ρ=>by simp,_,_,_,_,hp,rfl,rfl,rfl,rfl,out,rfl,ho⟩
 ·rintro e w1 ⟨v,rfl,hch,kn',ms',evs',snt',hp,rfl,rfl,rfl,rfl,out,rfl,ho⟩;exact⟨rfl,hch,out,hp,ho⟩
theorem arriveC(hc:CalmHd h)(hh:HdFlat h)(p:PX w F b h kn ms evs snt)(c:Cl w F)(o:Ok h kn ms evs)(f:Codec.Frame)(hf:FrOk h.n f)(k:Nat)(hcalm:Mo.Calm h.n k h.num f) :
 Calls Tryz.prog 74 #[pT b 0,.string ⟨(Codec.encB f).toArray⟩] w fun e w'=>e=.returned (.tuple #[])/\Chg F w w'/\∃kn' ms' evs',PC w' (Plus F w) b h kn' ms' evs' snt/\Mo.Come h.n h.num k f (mp kn ms evs) (mp kn' ms' evs')/\Ok h kn' ms' evs':=by
 refine(lift (f:=74) rfl rfl hh [.string ⟨(Codec.encB f).toArray⟩] (by simp) (Post:=fun v kn' ms' evs' snt'=>v=.tuple #[]/\snt'=snt/\Mo.Come h.n h.num k f (mp kn ms evs) (mp kn' ms' evs')/\Ok h kn' ms' evs') (fun w0 F0 b0 p0 h0=>?_) p c p.foot).mono ?_
 ·refine(qij hc p0 h0 o f hf k hcalm).mono ?_;rintro e w1 ⟨rfl, -,kn',ms',evs',hp,hm,ho⟩;exact⟨_,rfl,fun ρ=>by simp,_,_,_,_,hp,rfl,rfl,hm,ho⟩
 ·rintro e w1 ⟨v,rfl,hch,kn',ms',evs',snt',hp,rfl,rfl,hm,ho⟩;exact⟨rfl,hch,kn',ms',evs',hp,hm,ho⟩
def CastTo(h:Hd)(kn:List (List Int))(ms:List Codec.Msg)(evs:List Ev)(snt:List Par)(t:ByteArray)(kn':List (List Int))(ms':List Codec.Msg)(evs':List Ev)(snt':List Par):Prop:=
 kn'=castKn h kn/\ms'=(ms++[ownMsg h kn t]).filter (notStable h.members (castKn h kn))/\evs'=evs++[⟨1,h.view,h.num,(kn.getD h.num []).getD h.num 0+1,0,t⟩]/\
  snt'=snt++((List.range h.n).filter (fun q=>decide (q≠h.num))).map fun q=>par (Mo.dataF h.n h.num q (mp (castKn h kn) ((ms++[ownMsg h kn t]).filter (notStable h.members (castKn h kn))) (evs++[⟨1,h.view,h.num,(kn.getD h.num []).getD h.num 0+1,0,t⟩])) (ownMsg h kn t))
theorem castC(hc:CalmHd h)(hh:HdFlat h)(p:PX w F b h kn ms evs snt)(c:Cl w F)(o:Ok h kn ms evs)(hs:snt.length<=100000)(t:ByteArray)(ht:t.size<=16)(hno:∀m∈ms,isK (ownMsg h kn t).sender (ownMsg h kn t).seq m=false)(hlow:∀q,q<h.n->Kn kn q h.num<=Kn kn h.num h.num) :
 Calls Tryz.prog 97 #[pT b 0,.string t] w fun e w'=>Chg F w w'/\(((e=.returned (J 9)\/e=.returned (J 10))/\PC w' (Plus F w) b h kn ms evs snt)\/(e=.returned (J 0)/\(kn.getD h.num []).getD h.num 0<20/\PC w' (Plus F w) b h (castKn h kn) ((ms++[ownMsg h kn t]).filter (notStable h.members (castKn h kn))) (evs++[⟨1,h.view,h.num,(kn.getD h.num []).getD h.num 0+1,0,t⟩]) (snt++((List.range h.n).filter (fun q=>decide (q≠h.num))).map fun q=>par (Mo.dataF h.n h.num q (mp (castKn h kn) ((ms++[ownMsg h kn t]).filter (notStable h.members (castKn h kn))) (evs++[⟨1,h.view,h.num,(kn.getD h.num []).getD h.num 0+1,0,t⟩])) (ownMsg h kn t))))):=by
 refine(lift (f:=97) rfl rfl hh [.string t] (by simp) (Post:=fun v kn' ms' evs' snt'=>((v=J 9\/v=J 10)/\kn'=kn/\ms'=ms/\evs'=evs/\snt'=snt)\/(v=J 0/\(kn.getD h.num []).getD h.num 0<20/\CastTo h kn ms evs snt t kn' ms' evs' snt')) (fun w0 F0 b0 p0 h0=>?_) p c p.foot).mono ?_
 ·obtain⟨l,rfl,kb,mb,rbs,es,clk,ev,sv,q⟩:=p0;refine(qqr hc q h0 o hs t ht (fun x hx=>hno x.1 (yaC hx)) hlow).mono ?_;rintro e w1 (⟨he,hb⟩|⟨rfl,hx, -,hp⟩)
  ·have hp:=(q.px.below hb).wide (F':=Plus F0 w0) Plus.sub;rcases he with rfl|rfl
   ·exact⟨_,rfl,fun ρ=>by simp,_,_,_,_,hp,.inl ⟨.inl rfl,rfl,rfl,rfl,rfl⟩⟩
   ·exact⟨_,rfl,fun ρ=>by simp,_,_,_,_,hp,.inl ⟨.inr rfl,rfl,rfl,rfl,rfl⟩⟩
  ·exact⟨_,rfl,fun ρ=>by simp,_,_,_,_,hp,.inr ⟨rfl,hx,rfl,rfl,rfl,rfl⟩⟩
 ·rintro e w1 ⟨v,rfl,hch,kn',ms',evs',snt',hp,⟨hv,rfl,rfl,rfl,rfl⟩|⟨rfl,hx,rfl,rfl,rfl,rfl⟩⟩
  ·refine⟨hch,.inl ⟨?_,hp⟩⟩;rcases hv with rfl|rfl
   ·exact .inl rfl
   ·exact .inr rfl
  ·exact⟨hch,.inr ⟨rfl,hx,hp⟩⟩
end
end
end Go.Proofs.YtoklolfaemhfnaaGreatDoor
