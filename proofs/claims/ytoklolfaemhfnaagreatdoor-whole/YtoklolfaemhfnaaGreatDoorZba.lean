import Derived.Shelf.SlMaps.DeleteFunc
import Derived.Test.YtoklolfaemhfnaaGreatDoorZay
import Derived.Test.YtoklolfaemhfnaaGreatDoorZaz
set_option maxRecDepth 100000
set_option maxHeartbeats 8000000
namespace Go.Proofs.YtoklolfaemhfnaaGreatDoor
section
open Go.RowKit
open Go.ChangeMaps (setBlock)
def Ev.cells(e:Ev):List Value:=[J e.kind,J e.view,J e.src,J e.seq,J e.members,.string e.text]
def evCells(l:List Ev):List Value:=l.flatMap Ev.cells
abbrev Par:=Int × ByteArray
def parCells(l:List Par):List Value:=l.flatMap fun p=>[J p.1,.string p.2]
structure Row (w:World) (F:Nat->Prop) (e:TypeId) (sz:Nat) (v:Value) (n:Nat) (xs:List Value):Prop where
 row:w.ownsRow 0 e sz v n xs
 foot:∀g,v.ownBlock=some g->F g
theorem Row.lt{w:World}{F:Nat->Prop}{e:TypeId}{sz:Nat}{v:Value}{n:Nat}{xs:List Value}(h:Row w F e sz v n xs){g:Nat}(hg:v.ownBlock=some g):g<w.heap.size:=(h.row.lt g hg).2
theorem Row.kept{w w':World}{F:Nat->Prop}{e:TypeId}{sz:Nat}{v:Value}{n:Nat}{xs:List Value}(h:Row w F e sz v n xs)(hk:∀g,v.ownBlock=some g->w'.heap[g]?=w.heap[g]?):Row w' F e sz v n xs:=⟨qd h.row hk,h.foot⟩
theorem Row.tag{w:World}{F:Nat->Prop}{e:TypeId}{sz:Nat}{v:Value}{n:Nat}{xs:List Value}(h:Row w F e sz v n xs){g:Nat}(hg:v.ownBlock=some g):∃cur,w.heap[g]?=some (.cells cur e (0,0)):=by
 rcases h.row.2 with ⟨h0, -⟩|⟨g',cap,cur,rfl, -,hc, -⟩
 ·rw[h0] at hg;cases hg
 ·cases hg;exact⟨cur,hc⟩
structure PA (w:World) (F:Nat->Prop) (b:Nat) (h:Hd) (kn:List (List Int)) (l:Msgs) (evs:List Ev) (snt:List Par) (kb mb:Nat) (rbs:List Nat) (es:Array MapEntry) (clk:Nat) (ev sv:Value):Prop where
 blk:BlkAt w b 159 (h.cells (sT kb h.n h.n) (.map (some mb)) ev sv)
 known:KnownAt w h.n kb rbs kn
 map:w.heap[mb]?=some (.map es clk)
 mo:MapOf es clk l
 apart:qrj l
 times:∀x∈l,Row w F 3 1 x.2 x.1.time.length (ints x.1.time)/\∀g,x.2.ownBlock=some g->g ∉ rbs
 event:Row w F 64 6 ev evs.length (evCells evs)
 sent:Row w F 111 2 sv snt.length (parCells snt)
 fb:F b
 fk:F kb
 fm:F mb
 fr:∀r∈rbs,F r
variable {w w':World}{F:Nat->Prop}{b:Nat}{h:Hd}{kn:List (List Int)}{l:Msgs}{evs:List Ev}{snt:List Par}{kb mb:Nat}{rbs:List Nat}{es:Array MapEntry}{clk:Nat}{ev sv:Value}
theorem PA.ltm(p:PA w F b h kn l evs snt kb mb rbs es clk ev sv):mb<w.heap.size:=(yk.1 p.map).1
theorem PA.kept(p:PA w F b h kn l evs snt kb mb rbs es clk ev sv)(hk:∀x,F x->x<w.heap.size->w'.heap[x]?=w.heap[x]?):PA w' F b h kn l evs snt kb mb rbs es clk ev sv where
 blk:=(hk b p.fb p.blk.lt).trans p.blk
 known:=p.known.kept (hk kb p.fk p.known.lt.1) fun r hr=>hk r (p.fr r hr) (p.known.lt.2 r hr)
 map:=(hk mb p.fm p.ltm).trans p.map
 mo:=p.mo
 apart:=p.apart
 times:=fun x hx=>⟨(p.times x hx).1.kept fun g hg=>hk g ((p.times x hx).1.foot g hg) ((p.times x hx).1.lt hg),(p.times x hx).2⟩
 event:=p.event.kept fun g hg=>hk g (p.event.foot g hg) (p.event.lt hg)
 sent:=p.sent.kept fun g hg=>hk g (p.sent.foot g hg) (p.sent.lt hg)
 fb:=p.fb
 fk:=p.fk
 fm:=p.fm
 fr:=p.fr
theorem PA.below(p:PA w F b h kn l evs snt kb mb rbs es clk ev sv)(hb:Below w.heap.size w w'):PA w' F b h kn l evs snt kb mb rbs es clk ev sv:=p.kept fun x _ hx=>hb.block x hx
theorem PA.wide(p:PA w F b h kn l evs snt kb mb rbs es clk ev sv){F':Nat->Prop}(hF:∀x,F x->F' x):PA w F' b h kn l evs snt kb mb rbs es clk ev sv:=
 ⟨p.blk,p.known,p.map,p.mo,p.apart,fun x hx=>⟨⟨(p.times x hx).1.row,fun g hg=>hF g ((p.times x hx).1.foot g hg)⟩,(p.times x hx).2⟩,⟨p.event.row,fun g hg=>hF g (p.event.foot g hg)⟩,⟨p.sent.row,fun g hg=>hF g (p.sent.foot g hg)⟩,hF b p.fb,hF kb p.fk,hF mb p.fm,fun r hr=>hF r (p.fr r hr)⟩
theorem qy{w:World}{g mb:Nat}{cur:Array Value}{e:TypeId}{fz:Nat × Nat}{es:Array MapEntry}{clk:Nat}(h1:w.heap[g]?=some (.cells cur e fz))(h2:w.heap[mb]?=some (.map es clk)):g≠mb:=by
 rintro rfl;rw[h1] at h2;cases h2
theorem PA.nb(p:PA w F b h kn l evs snt kb mb rbs es clk ev sv):b≠mb:=qy p.blk p.map
theorem PA.nk(p:PA w F b h kn l evs snt kb mb rbs es clk ev sv):kb≠mb:=qy p.known.top p.map
theorem KnownAt.row{n:Nat}(k:KnownAt w n kb rbs kn){r:Nat}(hr:r∈rbs):∃cur,w.heap[r]?=some (.cells cur 3 (0,0)):=by
 obtain⟨q,hq,rfl⟩:=y4 hr;have:q<kn.length:=by rw[k.klen,<-k.len];exact hq
 exact⟨_,(k.rows q _ _ (yh hq) (yh this)).2⟩
theorem PA.nr(p:PA w F b h kn l evs snt kb mb rbs es clk ev sv){r:Nat}(hr:r∈rbs):r≠mb:=by
 obtain⟨cur,hc⟩:=p.known.row hr;exact qy hc p.map
theorem PA.remap(p:PA w F b h kn l evs snt kb mb rbs es clk ev sv)(hg:w.grownBy w' (some mb)){es':Array MapEntry}{clk':Nat}{l':Msgs}(hm:w'.heap[mb]?=some (.map es' clk'))(hmo:MapOf es' clk' l')(hap:qrj l')(ht:∀x∈l',x ∉ l->Row w' F 3 1 x.2 x.1.time.length (ints x.1.time)/\∀g,x.2.ownBlock=some g->g ∉ rbs):PA w' F b h kn l' evs snt kb mb rbs es' clk' ev sv:=by
 have key:∀x,x<w.heap.size->x≠mb->w'.heap[x]?=w.heap[x]?:=fun x hx hne=>hg.block x hx (fun e=>hne (by injection e));have krow:∀{e:TypeId}{sz:Nat}{v:Value}{n:Nat}{xs:List Value},Row w F e sz v n xs->Row w' F e sz v n xs:=fun r=>r.kept fun g hg=>by
  obtain⟨cur,hc⟩:=r.tag hg;exact key g (r.lt hg) (qy hc p.map)
 refine⟨(key b p.blk.lt p.nb).trans p.blk,p.known.kept (key kb p.known.lt.1 p.nk) fun r hr=>key r (p.known.lt.2 r hr) (p.nr hr),hm,hmo,hap,fun x hx=>?_,krow p.event,krow p.sent,p.fb,p.fk,p.fm,p.fr⟩;by_cases hxl:x∈l
 ·exact⟨krow (p.times x hxl).1,(p.times x hxl).2⟩
 ·exact ht x hx hxl
end
section
open Go.RowKit
open Go.ChangeMaps (setBlock)
variable {w w':World}{F:Nat->Prop}{b:Nat}{h:Hd}{kn:List (List Int)}{l:Msgs}{evs:List Ev}{snt:List Par}{kb mb:Nat}{rbs:List Nat}{es:Array MapEntry}{clk:Nat}{ev sv:Value}
theorem qlj(mv:Value)(pb:Nat)(m:Codec.Msg)(ao:Option Addr)(tn tc:Nat)(w:World)(hc:w.cell? (aT pb 0)=some (pT b 0))(hpb:pb<w.heap.size)(hb:BlkAt w b 159 (h.cells (sT kb h.n h.n) mv ev sv))(hk:KnownAt w h.n kb rbs kn)(hn:h.n<=6)(s:Nat)(hs:s<h.n)(hms:m.sender=s) :
 Calls Tryz.prog 185 #[keyV m.sender m.seq,msgV m (.slice ao tn tc),pT pb 0] w fun e w'=>e=.returned (.bool (stableB h.members kn s m.seq))/\Below w.heap.size w w':=by
 obtain⟨ms,mq,mt,mx⟩:=m;simp only at hms;subst hms;simp only;have hBa:Hid (Below w.heap.size w ((w.alloc (.cells #[J s,J mq] 186)).alloc (.cells #[J s,J mq,.slice ao tn tc,.string mx] 179))):=((yi _ _).alloc (yb _) _).alloc (by simp) _;have HB:Hid (BlkAt _ b 159 (h.cells (sT kb h.n h.n) mv ev sv)):=hb.below hBa.out hb.lt;have HK:Hid (KnownAt _ h.n kb rbs kn):=hk.below hBa.out;have hcf:((w.alloc (.cells #[J s,J mq] 186)).alloc (.cells #[J s,J mq,.slice ao tn tc,.string mx] 179)).cell? (aT pb 0)=some (pT b 0):=(yq (a:=(aT pb 0)) (hBa.out.block pb hpb)).trans hc;clear hb hk hc;unfold keyV msgV;go_enter Tryz.func185,Tryz.ntmps185
 go_wp2_with fail
 refine(qe5 b kb h mv ev sv rbs kn _ HB.out HK.out hn s hs mq).mono ?_;rintro e w2 ⟨rfl,hb2⟩;go_wp2_with fail
 go_ret;exact⟨rfl,hBa.out.trans (hb2.mono (by simp;omega))⟩
def Fits(n:Nat)(l:Msgs):Prop:=∀x∈l,∃s:Nat,s<n/\x.1.sender=s
def notStable(members:Int)(kn:List (List Int))(m:Codec.Msg):Bool:=!stableB members kn m.sender.toNat m.seq
theorem Row.form3{w:World}{F:Nat->Prop}{e:TypeId}{sz:Nat}{v:Value}{n:Nat}{xs:List Value}(r:Row w F e sz v n xs):∃ao m c,v=.slice ao m c:=by
 rcases r.row.2 with ⟨h0, -⟩|⟨g',cap,cur,h0, -⟩
 ·exact⟨_,_,_,h0⟩
 ·exact⟨_,_,_,h0⟩
theorem qc8(p:PA w F b h kn l evs snt kb mb rbs es clk ev sv)(hn:h.n<=6)(hl:Fits h.n l) :
 Calls Tryz.prog 140 #[pT b 0] w fun e w'=>e=.returned (.tuple #[])/\w.grownBy w' (some mb)/\∃es',PA w' F b h kn (l.filter fun x=>notStable h.members kn x.1) evs snt kb mb rbs es' clk ev sv:=by
 have hBa:Below w.heap.size w (w.alloc (.cells #[pT b 0] 102)):=(yi _ _).alloc (yb _) _;have hpm:mb<w.heap.size:=p.ltm;have hmap:Hid ((w.alloc (.cells #[pT b 0] 102)).heap[mb]?=some (.map es clk)):=(hBa.block mb hpm).trans p.map;have c15:(w.alloc (.cells #[pT b 0] 102)).cell? (aT b 15)=some (.map (some mb)):=(p.blk.below hBa p.blk.lt).cell 15 _ rfl;have eg:∀args w,(callFunc 185 args).run Tryz.prog w=.ok (.enter 185 args) w:=enters_of Tryz.func185 (by kernel_rfl) rfl;have HC:Hid (Calls Tryz.prog 184 #[.map (some mb),.func (.func 185) #[] #[pT w.heap.size 0]] (w.alloc (.cells #[pT b 0] 102)) _):=qg5 185 #[pT w.heap.size 0] eg (fun s q=>stableB h.members kn s.toNat q) mb es clk l _ hmap.out p.mo p.apart (fun x hx=>(p.times x hx).1.form3) (fun W x hx hG=>by
  obtain⟨s,hs,hms⟩:=hl x hx;obtain⟨ao,tn,tc,hv⟩:=(p.times x hx).1.form3;have hk:∀x,x<w.heap.size+1->x≠mb->W.heap[x]?=(w.alloc (.cells #[pT b 0] 102)).heap[x]?:=fun x hx hne=>hG.block x (by simpa using hx) (fun e=>hne (by injection e));have hbW:BlkAt W b 159 _:=(hk b (by have:=p.blk.lt;omega) p.nb).trans (p.blk.below hBa p.blk.lt);have hkW:KnownAt W h.n kb rbs kn:=(p.known.below hBa).kept (hk kb (by have:=p.known.lt.1;omega) p.nk) (fun r hr=>hk r (by have:=p.known.lt.2 r hr;omega) (p.nr hr));have hcW:W.cell? (aT w.heap.size 0)=some (pT b 0):=(yq (a:=(aT w.heap.size 0)) (hk w.heap.size (by omega) (by omega))).trans ((BlkAt.new w w.heap.size rfl 102 _).cell 0 _ rfl);have hsz:w.heap.size<W.heap.size:=by have:=hG.size;simp at this;omega
  have:=qlj (kb:=kb) (rbs:=rbs) (kn:=kn) (h:=h) (ev:=ev) (sv:=sv) (.map (some mb)) w.heap.size x.1 ao tn tc W hcW hsz hbW hkW hn s hs hms;rw[hv];simp only[hms,yai] at this ⊢;exact this)
 clear hmap;go_enter Tryz.func140,Tryz.ntmps140
 go_wp2_with (go_at_call 184;refine HC.out.mono ?_;rintro e w2 ⟨rfl,hG2,es',hm',hmo'⟩)
 go_end0
 have hG:w.grownBy w2 (some mb):=⟨hG2.os.trans hBa.os,hG2.tape.trans hBa.tape,hG2.output.trans hBa.output,yr hBa.size hG2.size,fun k hk hne=>(hG2.block k (by simp;omega) hne).trans (hBa.block k hk)⟩;exact⟨rfl,hG,es',p.remap hG hm' hmo' (p.apart.sublist List.filter_sublist) (fun x hx hnx=>absurd (yM.1 hx).1 hnx)⟩
end
section
open Go.RowKit
open Go.ChangeMaps (setBlock)
structure Chg (F:Nat->Prop) (w w':World):Prop where
 os:w'.os=w.os
 tape:w'.tape=w.tape
 output:w'.output=w.output
 size:w.heap.size<=w'.heap.size
 block:∀k,k<w.heap.size->¬F k->w'.heap[k]?=w.heap[k]?
def Plus(F:Nat->Prop)(w:World):Nat->Prop:=fun x=>F x\/w.heap.size<=x
theorem Plus.sub{F:Nat->Prop}{w:World}:∀x,F x->Plus F w x:=fun _ h=>.inl h
theorem Plus.norm{F:Nat->Prop}{w w':World}(h:w.heap.size<=w'.heap.size):∀x,Plus (Plus F w) w' x->Plus F w x:=fun x hx=>by
 rcases hx with hx|hx
 ·exact hx
 ·exact .inr (by omega)
theorem Chg.refl(F:Nat->Prop)(w:World):Chg F w w:=⟨rfl,rfl,rfl,yb _,fun _ _ _=>rfl⟩
theorem Chg.trans{F:Nat->Prop}{a b c:World}(h:Chg F a b)(k:Chg (Plus F a) b c):Chg F a c:=
 ⟨k.os.trans h.os,k.tape.trans h.tape,k.output.trans h.output,yr h.size k.size,fun x hx hF=>(k.block x (yg hx h.size) (fun e=>e.elim hF (fun e=>by omega))).trans (h.block x hx hF)⟩
theorem Chg.mono{F F':Nat->Prop}{a b:World}(h:Chg F a b)(hF:∀x,x<a.heap.size->F x->F' x):Chg F' a b:=⟨h.os,h.tape,h.output,h.size,fun x hx hn=>h.block x hx fun e=>hn (hF x hx e)⟩
theorem Chg.of_below{F:Nat->Prop}{w w':World}(h:Below w.heap.size w w'):Chg F w w':=⟨h.os,h.tape,h.output,h.size,fun k hk _=>h.block k hk⟩
theorem Chg.of_grown{F:Nat->Prop}{w w':World}{g:Option Nat}(h:w.grownBy w' g)(hg:∀x,g=some x->F x):Chg F w w':=⟨h.os,h.tape,h.output,h.size,fun k hk hn=>h.block k hk fun e=>hn (hg k e.symm)⟩
theorem Chg.of_only{F:Nat->Prop}{w w':World}{X:Nat}(h:Only X w w')(hg:F X):Chg F w w':=⟨h.os,h.tape,h.output,by rw[h.size];exact yb _,fun k _ hn=>h.block k fun e=>hn (e▸hg)⟩
theorem Chg.below{F:Nat->Prop}{w w':World}(h:Chg F w w')(hF:∀x,x<w.heap.size->¬F x):Below w.heap.size w w':=⟨h.os,h.tape,h.output,h.size,fun k hk=>h.block k hk (hF k hk)⟩
variable {w w':World}{F:Nat->Prop}{b:Nat}{h:Hd}{kn:List (List Int)}{l:Msgs}{evs:List Ev}{snt:List Par}{kb mb:Nat}{rbs:List Nat}{es:Array MapEntry}{clk:Nat}{ev sv:Value}
theorem qbf{w:World}{x y:Nat}{cs ds:Array Value}{t e:TypeId}(h:w.heap[x]?=some (.cells cs t (0,0)))(h':w.heap[y]?=some (.cells ds e (0,0)))(hne:t≠e):x≠y:=qbo (w:=w) (cs:=cs) (ds:=ds) h h' hne
theorem Row.ne{e:TypeId}{sz:Nat}{v:Value}{n:Nat}{xs:List Value}(r:Row w F e sz v n xs){g x:Nat}(hg:v.ownBlock=some g){cs:Array Value}{t:TypeId}(hx:w.heap[x]?=some (.cells cs t (0,0)))(hne:e≠t):g≠x:=by
 obtain⟨cur,hc⟩:=r.tag hg;exact qbf hc hx hne
theorem PA.rerow(p:PA w F b h kn l evs snt kb mb rbs es clk ev sv){q r:Nat}(hr:rbs[q]?=some r){row':List Int}(hl:row'.length=h.n)(hO:∀x,x<w.heap.size->x≠r->w'.heap[x]?=w.heap[x]?)(hb:BlkAt w' r 3 (ints row').toArray):PA w' F b h (kn.set q row') l evs snt kb mb rbs es clk ev sv:=by
 have hrm:r∈rbs:=yy hr;obtain⟨cur,hcr⟩:=p.known.row hrm;have keep:∀{e:TypeId}{sz:Nat}{v:Value}{n:Nat}{xs:List Value} (R:Row w F e sz v n xs),(∀g,v.ownBlock=some g->g≠r)->Row w' F e sz v n xs:=fun R hg=>R.kept fun g h1=>hO g (R.lt h1) (hg g h1);refine⟨(hO b p.blk.lt (qbf p.blk hcr (by decide))).trans p.blk,?_,(hO mb p.ltm (qy hcr p.map).symm).trans p.map,p.mo,p.apart,fun x hx=>⟨keep (p.times x hx).1 fun g hg e=>(p.times x hx).2 g hg (e▸hrm),(p.times x hx).2⟩,keep p.event fun g hg=>p.event.ne hg hcr (by decide),keep p.sent fun g hg=>p.sent.ne hg hcr (by decide),p.fb,p.fk,p.fm,p.fr⟩;have K:=p.known;refine⟨K.len,by simpa using K.klen,K.nodup,(hO kb K.lt.1 (qbf K.top hcr (by decide))).trans K.top,fun q' r' l' h1 h2=>?_⟩;by_cases e:q'=q
 ·subst e;rw[hr] at h1;injection h1 with h1;subst h1;rw[List.getElem?_set] at h2;simp only[if_true] at h2;split at h2
  ·injection h2 with h2;subst h2;exact⟨hl,hb⟩
  ·cases h2
 ·rw[yao (fun e'=>e e'.symm)] at h2;have hne:r'≠r:=fun e'=>by
   subst e';have h3:=ym.1 h1;have h4:=ym.1 hr;obtain⟨a1,a2⟩:=h3;obtain⟨b1,b2⟩:=h4;exact e ((List.getElem_inj K.nodup).1 (a2.trans b2.symm))
  have h3:=K.rows q' r' l' h1 h2;exact⟨h3.1,(hO r' (K.lt.2 r' (yy h1)) hne).trans h3.2⟩
theorem PA.rehead(p:PA w F b h kn l evs snt kb mb rbs es clk ev sv){h':Hd}{ev' sv':Value}{evs':List Ev}{snt':List Par}(hn:h'.n=h.n)(hb:BlkAt w' b 159 (h'.cells (sT kb h.n h.n) (.map (some mb)) ev' sv'))
 (hO:∀x,x<w.heap.size->x≠b->(∀cur,w.heap[x]?≠some (.cells cur 64 (0,0)))->(∀cur,w.heap[x]?≠some (.cells cur 111 (0,0)))->w'.heap[x]?=w.heap[x]?)
 (he:Row w' F 64 6 ev' evs'.length (evCells evs')) (hs:Row w' F 111 2 sv' snt'.length (parCells snt')):PA w' F b h' kn l evs' snt' kb mb rbs es clk ev' sv':=by
 have other:∀{x:Nat}{cs:Array Value}{t:TypeId},w.heap[x]?=some (.cells cs t (0,0))->t≠159->t≠64->t≠111->w'.heap[x]?=w.heap[x]?:=fun {x cs t} hx h1 h2 h3=>by
  refine hO x (yk.1 hx).1 (fun e=>?_) (fun cur hc=>?_) (fun cur hc=>?_)
  ·subst e;exact qbf hx p.blk h1 rfl
  ·rw[hx] at hc;injection hc with hc;injection hc with _ hc;exact h2 hc
  ·rw[hx] at hc;injection hc with hc;injection hc with _ hc;exact h3 hc
 have K:=p.known;refine⟨by rw[hn];exact hb,?_,?_,p.mo,p.apart,fun x hx=>⟨(p.times x hx).1.kept fun g hg=>?_,(p.times x hx).2⟩,he,hs,p.fb,p.fk,p.fm,p.fr⟩
 ·rw[hn];exact K.kept (other K.top (by decide) (by decide) (by decide)) fun r hr=>by
   obtain⟨cur,hc⟩:=K.row hr;exact other hc (by decide) (by decide) (by decide)
 ·refine(hO mb p.ltm p.nb.symm (fun cur hc=>?_) (fun cur hc=>?_)).trans p.map <;> (rw[p.map] at hc;cases hc)
 ·obtain⟨cur,hc⟩:=(p.times x hx).1.tag hg;exact other hc (by decide) (by decide) (by decide)
def PX(w:World)(F:Nat->Prop)(b:Nat)(h:Hd)(kn:List (List Int))(ms:List Codec.Msg)(evs:List Ev)(snt:List Par):Prop:=
 ∃l:Msgs,l.map Prod.fst=ms/\∃(kb mb:Nat) (rbs:List Nat) (es:Array MapEntry) (clk:Nat) (ev sv:Value),PA w F b h kn l evs snt kb mb rbs es clk ev sv
theorem PA.px(p:PA w F b h kn l evs snt kb mb rbs es clk ev sv):PX w F b h kn (l.map Prod.fst) evs snt:=⟨l,rfl,kb,mb,rbs,es,clk,ev,sv,p⟩
theorem PX.wide{ms:List Codec.Msg}(p:PX w F b h kn ms evs snt){F':Nat->Prop}(hF:∀x,F x->F' x):PX w F' b h kn ms evs snt:=by
 obtain⟨l,rfl,kb,mb,rbs,es,clk,ev,sv,q⟩:=p;exact(q.wide hF).px
theorem PX.kept{ms:List Codec.Msg}(p:PX w F b h kn ms evs snt)(hk:∀x,F x->x<w.heap.size->w'.heap[x]?=w.heap[x]?):PX w' F b h kn ms evs snt:=by
 obtain⟨l,rfl,kb,mb,rbs,es,clk,ev,sv,q⟩:=p;exact(q.kept hk).px
theorem PX.below{ms:List Codec.Msg}(p:PX w F b h kn ms evs snt)(hb:Below w.heap.size w w'):PX w' F b h kn ms evs snt:=p.kept fun x _ hx=>hb.block x hx
end
end Go.Proofs.YtoklolfaemhfnaaGreatDoor
