import Derived.Test.YtoklolfaemhfnaaGreatDoorZbc
set_option maxRecDepth 100000
set_option maxHeartbeats 8000000
namespace Go.Proofs.YtoklolfaemhfnaaGreatDoor
section
open Go.RowKit
open Go.ChangeMaps (setBlock)
variable {w w':World}{F:Nat->Prop}{b:Nat}{h:Hd}{kn:List (List Int)}{l:Msgs}{evs:List Ev}{snt:List Par}{kb mb:Nat}{rbs:List Nat}{es:Array MapEntry}{clk:Nat}{ev sv:Value}
theorem Mo.Delivs.snoc{n j:Nat}{p q r:Mo.MP}(h:Mo.Delivs n j p q){m:Codec.Msg}(hd:Mo.Deliv n j m q r):Mo.Delivs n j p r:=by
 induction h with
 |none p=>exact .more m hd (.none _)
 |more x h1 _ ih=>exact .more x h1 (ih hd)
theorem getD_some{l:List Int}{i:Nat}(h:i<l.length):l[i]?=some (l.getD i 0):=by simp[h]
def room(row:List Int):Nat:=(row.map fun x=>(20 - x).toNat).sum
theorem qha:∀{row:List Int}{s:Nat}{x:Int},row[s]?=some x->x+1<=20->room (row.set s (x+1))+1=room row
 |[],_,_,h,_=>by cases h
 | y :: row, 0, x, h, h2 => by
   simp only[yak,yA] at h;subst h;simp only[List.set_cons_zero,room,yN,List.sum_cons];omega
 | y :: row, s + 1, x, h, h2 => by
   have:=qha (row:=row) (s:=s) (x:=x) (by simpa using h) h2;simp only[List.set_cons_succ,room,yN,List.sum_cons] at this ⊢;omega
def evLen(w:World)(b:Nat):Nat:=match w.cell? (aT b 17) with|some (.slice _ n _)=>n|_=>0
theorem PA.evLen(p:PA w F b h kn l evs snt kb mb rbs es clk ev sv):evLen w b=evs.length:=by
 have hc:=p.blk.cell 17 _ rfl;unfold YtoklolfaemhfnaaGreatDoor.evLen;rw[hc];show (match (some ev) with|some (.slice _ n _)=>n|_=>0)=_;rcases p.event.row.2 with ⟨h0,h1⟩|⟨g,cap,cur,h0, -⟩
 ·rw[h0,h1]
 ·rw[h0]
structure CalmHd (h:Hd):Prop where
 n1:h.n<=6
 num:h.num<h.n
 members:h.members=full h.n
 view:h.view=0
 crashed:h.crashed=false
 out:h.out=false
 blocked:h.blocked=false
 suspects:h.suspects=0
 promised:h.promised=0
 lead:h.lead=.pointer none
def RowOk(n:Nat)(row:List Int):Prop:=∀q,q<n->0<=row.getD q 0/\row.getD q 0<=20
theorem Held.filter{n:Nat}{l:Msgs}(h:Held n l)(f:Codec.Msg × Value->Bool):Held n (l.filter f):=fun x hx=>h x (yM.1 hx).1
theorem Held.fits{n:Nat}{l:Msgs}(h:Held n l):Fits n l:=fun x hx=>by
 obtain⟨s,hs,he, -⟩:=h x hx;exact⟨s,hs,he⟩
theorem qu(l:Msgs)(f:Codec.Msg->Bool):(l.filter fun x=>f x.1).map Prod.fst=(l.map Prod.fst).filter f:=by
 rw[List.filter_map];rfl
theorem qm4{n j:Nat}{kn:List (List Int)}(hr:(kn.getD j []).length=n){l:Msgs}{evs:List Ev}{x:Codec.Msg × Value}(hx:x∈l):CanD (kn.getD j []) x.1↔Mo.Able n j (mp kn (l.map Prod.fst) evs) x.1:=by
 constructor
 ·intro hc;exact⟨yaC hx,hc.1,fun q hq hne=>qdb.1 hc.2 q (by omega) hne⟩
 ·intro ha;exact⟨ha.next,qdb.2 fun q hq hne=>ha.seen q (by omega) hne⟩
structure DelivTo (w:World) (F:Nat->Prop) (b:Nat) (h:Hd) (kn:List (List Int)) (l:Msgs) (evs:List Ev) (snt:List Par) (kb mb:Nat) (rbs:List Nat) (clk:Nat) (sv:Value) (C:Nat) (w':World) (kn':List (List Int)) (l':Msgs) (evs':List Ev) (es':Array MapEntry) (ev':Value):Prop where
 pa:PA w' (Plus F w) b h kn' l' evs' snt kb mb rbs es' clk ev' sv
 chg:Chg F w w'
 dl:Mo.Delivs h.n h.num (mp kn (l.map Prod.fst) evs) (mp kn' (l'.map Prod.fst) evs')
 held:Held h.n l'
 row:RowOk h.n (kn'.getD h.num [])
 bound:evs'.length+room (kn'.getD h.num [])=C
theorem DelivTo.below{C:Nat}{w' w'':World}{kn':List (List Int)}{l':Msgs}{evs':List Ev}{es':Array MapEntry}{ev':Value}(d:DelivTo w F b h kn l evs snt kb mb rbs clk sv C w' kn' l' evs' es' ev')(hb:Below w'.heap.size w' w''):DelivTo w F b h kn l evs snt kb mb rbs clk sv C w'' kn' l' evs' es' ev':=
 ⟨d.pa.below hb,d.chg.trans (Chg.of_below hb),d.dl,d.held,d.row,d.bound⟩
theorem DelivTo.step{C:Nat}{w':World}{kn':List (List Int)}{l':Msgs}{evs':List Ev}{es' es'':Array MapEntry}{ev' ev'':Value}{w'' w''':World}(hc:CalmHd h)(d:DelivTo w F b h kn l evs snt kb mb rbs clk sv C w' kn' l' evs' es' ev'){x:Codec.Msg × Value}(hx:x∈l')(hcan:CanD (kn'.getD h.num []) x.1)
 (h1:Chg (Plus F w) w' w'') (p2:PA w'' (Plus (Plus F w) w') b h (kn'.set h.num ((kn'.getD h.num []).set x.1.sender.toNat x.1.seq)) (l'.filter fun y=>notStable h.members (kn'.set h.num ((kn'.getD h.num []).set x.1.sender.toNat x.1.seq)) y.1) (evs'++[⟨2,h.view,x.1.sender,x.1.seq,0,x.1.text⟩]) snt kb mb rbs es'' clk ev'' sv) (h2:w''=w''') :
 DelivTo w F b h kn l evs snt kb mb rbs clk sv C w''' (kn'.set h.num ((kn'.getD h.num []).set x.1.sender.toNat x.1.seq)) (l'.filter fun y=>notStable h.members (kn'.set h.num ((kn'.getD h.num []).set x.1.sender.toNat x.1.seq)) y.1) (evs'++[⟨2,h.view,x.1.sender,x.1.seq,0,x.1.text⟩]) es'' ev'':=by
 subst h2;obtain⟨r,hr,hbr,hrl, -⟩:=d.pa.row_at hc.num;obtain⟨s,hs,hsx, -,hq0,hq20⟩:=d.held x hx;have hsn:x.1.sender.toNat=s:=by rw[hsx];rfl
 have hkl:kn'.length=h.n:=d.pa.known.klen;have hnum:h.num<kn'.length:=by rw[hkl];exact hc.num
 have hrow':(kn'.set h.num ((kn'.getD h.num []).set x.1.sender.toNat x.1.seq)).getD h.num []=(kn'.getD h.num []).set x.1.sender.toNat x.1.seq:=by
  rw[yj,yaf hnum];rfl
 refine⟨p2.wide fun y hy=>Plus.norm d.chg.size y hy,d.chg.trans h1,?_,d.held.filter _,?_,?_⟩
 ·rw[qu,hc.members,hc.view];exact d.dl.snoc (qox hc.n1 hkl hc.num rfl hrl ((qm4 hrl hx).1 hcan))
 ·rw[hrow'];intro q hq;by_cases e:q=x.1.sender.toNat
  ·subst e;rw[yj,yaf (by omega)];exact⟨hq0,hq20⟩
  ·rw[yj,yao (fun h=>e h.symm),<-yj];exact d.row q hq
 ·rw[hrow',yC];have hx1:=hcan.1;have hget:=getD_some (l:=kn'.getD h.num []) (i:=x.1.sender.toNat) (by omega);have:=qha hget (by omega);rw[<-hx1] at this;have hb:=d.bound;simp only[yx,yD];omega
theorem qd8(hc:CalmHd h)(p:PA w F b h kn l evs snt kb mb rbs es clk ev sv)(hl:Held h.n l)(hrow:RowOk h.n (kn.getD h.num []))(cb cc:Nat)(hcb:¬F cb)(hcut:∀q,q<h.n->w.cell? (aT cb q)=some (J 20))(C:Nat)(hC:evs.length+room (kn.getD h.num [])=C)(hC2:C<=1000000) :
 Calls Tryz.prog 287 #[pT b 0,sT cb h.n cc] w fun e w'=>e=.returned (.tuple #[])/\∃kn' l' evs' es' ev',DelivTo w F b h kn l evs snt kb mb rbs clk sv C w' kn' l' evs' es' ev'/\Mo.Stuck h.n h.num (mp kn' (l'.map Prod.fst) evs'):=by
 have hcbw:cb<w.heap.size:=yI w ⟨cb,h.num,none⟩ (hcut h.num hc.num);have d0:Hid (∃kn' l' evs' es' ev',DelivTo w F b h kn l evs snt kb mb rbs clk sv C w kn' l' evs' es' ev'):=⟨kn,l,evs,es,ev,p.wide Plus.sub,Chg.refl _ _,.none _,hl,hrow,hC⟩;have H1:Hid (∀w' kn' l' evs' es' ev',DelivTo w F b h kn l evs snt kb mb rbs clk sv C w' kn' l' evs' es' ev'->Calls Tryz.prog 301 #[pT b 0,sT cb h.n cc] w' fun e w''=>Below w'.heap.size w' w''/\((∃m ao tn tc,(m,Value.slice ao tn tc)∈l'/\e=.returned (.tuple #[.agg #[J m.sender,J m.seq,.slice ao tn tc,.string m.text],.bool true])/\CanD (kn'.getD h.num []) m)\/(e=.returned (.tuple #[.agg #[J 0,J 0,sN,.string ⟨#[]⟩],.bool false])/\Mo.Stuck h.n h.num (mp kn' (l'.map Prod.fst) evs')))):=fun w' kn' l' evs' es' ev' d=>by
  have hrl:(kn'.getD h.num []).length=h.n:=by obtain⟨r, -, -,hrl, -⟩:=d.pa.row_at hc.num;exact hrl
  refine(qfy d.pa hc.n1 hc.num d.held cb cc (fun q hq=>?_) d.row).mono ?_
  ·exact(yq (a:=(aT cb q)) (d.chg.block cb hcbw hcb)).trans (hcut q hq)
  ·rintro e w'' ⟨hb,hor⟩;refine⟨hb,?_⟩;rcases hor with ⟨x,hx,rfl,hcan⟩|⟨rfl,hno⟩
   ·obtain⟨ao,tn,tc,hv⟩:=(d.pa.times x hx).1.form3;refine .inl ⟨x.1,ao,tn,tc,by rw[<-hv];exact hx,by rw[<-hv];rfl,hcan⟩
   ·refine .inr ⟨rfl,fun m ha=>?_⟩;obtain⟨x,hx,rfl⟩:=yW.1 ha.mem;exact hno x hx ((qm4 hrl hx).2 ha)
 have H2:Hid (∀w' w'' kn' l' evs' es' ev' (m:Codec.Msg) ao tn tc,DelivTo w F b h kn l evs snt kb mb rbs clk sv C w' kn' l' evs' es' ev'->Below w'.heap.size w' w''->(m,Value.slice ao tn tc)∈l'->Calls Tryz.prog 138 #[pT b 0,.agg #[J m.sender,J m.seq,.slice ao tn tc,.string m.text],J 2] w'' fun e w3=>e=.returned (.tuple #[])/\Chg (Plus F w) w' w3/\∃ev'',PA w3 (Plus (Plus F w) w') b h (kn'.set h.num ((kn'.getD h.num []).set m.sender.toNat m.seq)) l' (evs'++[⟨2,h.view,m.sender,m.seq,0,m.text⟩]) snt kb mb rbs es' clk ev'' sv):=fun w' w'' kn' l' evs' es' ev' m ao tn tc d hb hx=>by
  obtain⟨s,hs,hsx, -⟩:=d.held _ hx;have hsn:m.sender.toNat=s:=by rw[hsx];rfl
  rw[hsn];refine(qg9 (d.pa.below hb) m ao tn tc 2 s hs hsx hc.num (by have:=d.bound;omega)).mono ?_;rintro e w3 ⟨rfl,hch,ev'',p3⟩;refine⟨rfl,(Chg.of_below hb).trans (hch.mono fun x _ hx=>.inl hx),ev'',p3.wide fun x hx=>hx.elim .inl fun hx=>.inr (by have:=hb.size;omega)⟩
 have H3:Hid (∀w' w3 kn' l' evs' es' ev' ev'' (m:Codec.Msg) ao tn tc,DelivTo w F b h kn l evs snt kb mb rbs clk sv C w' kn' l' evs' es' ev'->(m,Value.slice ao tn tc)∈l'->CanD (kn'.getD h.num []) m->Chg (Plus F w) w' w3->PA w3 (Plus (Plus F w) w') b h (kn'.set h.num ((kn'.getD h.num []).set m.sender.toNat m.seq)) l' (evs'++[⟨2,h.view,m.sender,m.seq,0,m.text⟩]) snt kb mb rbs es' clk ev'' sv->Calls Tryz.prog 140 #[pT b 0] w3 fun e w4=>e=.returned (.tuple #[])/\(∃kn' l' evs' es' ev',DelivTo w F b h kn l evs snt kb mb rbs clk sv C w4 kn' l' evs' es' ev')/\evLen w4 b=evs'.length+1):=fun w' w3 kn' l' evs' es' ev' ev'' m ao tn tc d hx hcan hch p3=>by
  refine(qc8 p3 hc.n1 d.held.fits).mono ?_;rintro e w4 ⟨rfl,hg,es4,p4⟩;have hch2:Chg (Plus F w) w' w4:=hch.trans (Chg.of_grown hg fun x hx=>by injection hx with hx;subst hx;exact p3.fm);refine⟨rfl,⟨_,_,_,_,_,d.step hc hx hcan hch2 p4 rfl⟩,?_⟩;rw[p4.evLen];simp
 have HL:Hid (∀w' kn' l' evs' es' ev',DelivTo w F b h kn l evs snt kb mb rbs clk sv C w' kn' l' evs' es' ev'->evLen w' b=evs'.length/\evs'.length<=C):=fun w' kn' l' evs' es' ev' d=>⟨d.pa.evLen,by have:=d.bound;omega⟩;clear p hl hrow hcut hC hc;go_enter Tryz.func287,Tryz.ntmps287
 go_wp2_with fail
 go_loopw [] (fun wr=>∃kn' l' evs' es' ev',DelivTo w F b h kn l evs snt kb mb rbs clk sv C wr kn' l' evs' es' ev') (fun wr=>C+1 - evLen wr b)
 case atStart=>exact d0.out
 case round=>
  obtain⟨kn',l',evs',es',ev',d⟩:=hrel;have D:Hid (DelivTo w F b h kn l evs snt kb mb rbs clk sv C wr kn' l' evs' es' ev'):=d;have hc1:=H1.out _ _ _ _ _ _ d;have hlen:=HL.out _ _ _ _ _ _ d;clear d;go_wp2_with fail
  refine hc1.mono ?_;rintro e w2 ⟨hb2,hor⟩;have HB2:Hid (Below wr.heap.size wr w2):=hb2;clear hc1 hb2;rcases hor with ⟨m,ao,tn,tc,hx,rfl,hcan⟩|⟨rfl,hst⟩
  ·have HX:Hid ((m,Value.slice ao tn tc)∈l'):=hx;have HCAN:Hid (CanD (kn'.getD h.num []) m):=hcan;clear hx hcan;go_wp2_with fail
   have HB3:Hid (Below wr.heap.size wr (w2.alloc (.cells #[J m.sender,J m.seq,.slice ao tn tc,.string m.text] 179))):=HB2.out.alloc HB2.out.size _;have hc2:=H2.out _ _ _ _ _ _ _ _ _ _ _ D.out HB3.out HX.out;generalize w2.alloc (.cells #[J m.sender,J m.seq,.slice ao tn tc,.string m.text] 179)=w3 at HB3 hc2 ⊢;refine hc2.mono ?_;rintro e w4 ⟨rfl,hch,ev'',p3⟩;have hc3:=H3.out _ _ _ _ _ _ _ _ _ _ _ _ D.out HX.out HCAN.out hch p3;clear hc2 hch p3;go_wp2_with fail
   refine hc3.mono ?_;rintro e w5 ⟨rfl,hd5,hl5⟩;have HD5:Hid (∃kn' l' evs' es' ev',DelivTo w F b h kn l evs snt kb mb rbs clk sv C w5 kn' l' evs' es' ev'):=hd5;clear hc3 hd5;go_wp2_with fail
   exact⟨HD5.out,by rw[hl5,hlen.1];have:=hlen.2;omega⟩
  ·have HST:Hid (Mo.Stuck h.n h.num (mp kn' (l'.map Prod.fst) evs')):=hst;clear hst;go_wp2_with fail
   (try simp only[Exit.inBlock,Exit.then])
   refine bodyPost_ret (results_none rfl _ _ _) rfl ?_;exact⟨rfl,kn',l',evs',es',ev',D.out.below (HB2.out.alloc HB2.out.size _),HST.out⟩
end
end Go.Proofs.YtoklolfaemhfnaaGreatDoor
