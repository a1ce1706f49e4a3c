import Derived.Test.YtoklolfaemhfnaaGreatDoorZbw
set_option maxRecDepth 100000
set_option maxHeartbeats 8000000
open Go.Proofs.Tryz (prog)
namespace Go.Proofs.YtoklolfaemhfnaaGreatDoor
section
open Go.RowKit
open Go.ChangeMaps (setBlock)
variable {w w':World}{gb pb n win lim:Nat}{bl:Nat->Nat}{Fp:Nat->Nat->Prop}{Fn:Nat->Prop}{st:Nat->Pst}{pl:List Par}{nv:Value}{FG:Nat->Prop}
inductive Goes (n:Nat) (st:Nat->Pst) (x:Par):(Nat->Pst)->Prop
 |frame (f:Codec.Frame) (j k:Nat) (s:Pst):x=par f->Codec.fits f=true->Mo.Calm n k j f->j<n->Mo.Come n j k f (st j).mp s.mp->Goes n st x (setSt st j s)
 |spoilt:Codec.isFrame x.2.data.toList=false->Goes n st x st
inductive ParOk (n:Nat) (x:Par):Prop
 |frame (f:Codec.Frame) (j k:Nat):x=par f->f.dst=j->j<n->FrOk n f->Mo.Calm n k j f->ParOk n x
 |spoilt (j:Nat):x.1=j->j<n->x.2.size<=1000000->Codec.isFrame x.2.data.toList=false->ParOk n x
theorem GA.deliver(hn:n<=6)(g:GA w gb pb n win lim bl Fp Fn st pl nv)(hW:∀x,Whl gb pb n Fp Fn x->FG x)(hl:pl.length<=1000000)(x:Par)(hx:ParOk n x) :
 ∃j:Nat,x.1=(j:Int)/\j<n/\Calls prog 74 #[.pointer (some ⟨bl j,0,none⟩),.string x.2] w fun e w1=>e=.returned (.tuple #[])/\Calls prog 62 #[pT gb 0,.pointer (some ⟨bl j,0,none⟩)] w1 fun e w2=>e=.returned (.tuple #[])/\∃st',GS w w2 FG gb n win lim st' pl/\Goes n st x st':=by
 have fin:∀{j:Nat} (hj:j<n) {w1:World} (hch:Chg (Fp j) w w1) {s:Pst},PC w1 (Plus (Fp j) w) (bl j) (qre j n win) s.kn s.ms s.evs []->(Ok (qre j n win) s.kn s.ms s.evs/\∀m∈s.ms,Codec.msgFits m=true)->Goes n st x (setSt st j s)->Calls prog 62 #[pT gb 0,.pointer (some ⟨bl j,0,none⟩)] w1 fun e w2=>e=.returned (.tuple #[])/\∃st',GS w w2 FG gb n win lim st' pl/\Goes n st x st':=fun {j} hj {w1} hch {s} hp hok hg=>by
  refine(g.carry hj hch hp hok (by simpa using hl)).mono ?_;rintro e w2 ⟨rfl,hch2,Fp',Fn',nv',g2,hW2⟩;exact⟨rfl,_,⟨hch2.mono fun x _ h=>hW x h,pb,bl,Fp',Fn',nv',g2,fun x hx=>(hW2 x hx).imp (hW x) id⟩,hg⟩
 cases hx with
 | frame f j k hx hd hj hf hcalm =>
   subst hx;refine⟨j,hd,hj,(arriveC (qbb (win:=win) hj hn) (qab _ n win) (g.proc _ hj) (g.cl _ hj) (g.ok _ hj).1 f hf k hcalm).mono ?_⟩;rintro e w1 ⟨rfl,hch,kn',ms',evs',hp,hcome,hok⟩;refine⟨rfl,fin hj hch (s:=⟨kn',ms',evs'⟩) hp ⟨hok,fun m hm=>?_⟩ (.frame f _ k _ rfl hf.fits hcalm hj hcome)⟩;rcases hcome.sub m hm with h1|h1
   ·exact(g.ok _ hj).2 m h1
   ·exact qik hf.fits m (by rw[h1];simp)
 | spoilt j hx hj hsz hno =>
   obtain⟨l,hlm,kb,mb,rbs,es,clk,ev,sv,p⟩:=g.proc j hj;refine⟨j,hx,hj,?_⟩;have h0:=qm7 (qbb (win:=win) hj hn) p x.2.data.toList (by have:x.2.data.toList.length=x.2.size:=rfl;omega) hno;rw[show (⟨x.2.data.toList.toArray⟩:ByteArray)=x.2 from rfl] at h0;refine h0.mono ?_;rintro e w1 ⟨rfl,hb⟩;refine⟨rfl,fin hj (Chg.of_below hb) (s:=st j) ⟨Fp j,Plus.sub,(g.proc j hj).below hb,(g.cl j hj).below hb⟩ (g.ok j hj) ?_⟩;rw[qdq];exact .spoilt hno
theorem qfk(hn:n<=6)(gx:GX w FG gb n win lim st pl)(hl:pl.length<=1000000)(k:Nat)(x:Par)(hk:pl[k]?=some x)(hx:ParOk n x):Calls prog 42 #[pT gb 0,J k] w fun e w'=>e=.returned (J 0)/\∃st',GS w w' FG gb n win lim st' (pl.eraseIdx k)/\Goes n st x st':=by
 obtain⟨pb,bl,Fp,Fn,nv,g,hW⟩:=gx;obtain⟨x1,x2⟩:=x;have HT:Hid (Calls prog 73 #[pT gb 1,J k] w fun e w'=>e=.returned (.tuple #[.agg #[J x1,.string x2],J 0])/\Chg FG w w'/\∃Fn' nv',GA w' gb pb n win lim bl Fp Fn' st (pl.eraseIdx k) nv'/\∀x,Whl gb pb n Fp Fn' x->Plus FG w x):=(qgh g.net hl k _ hk).mono fun e w' h=>⟨h.1,by
  obtain⟨-,hch,nv',nt⟩:=h;have hgs:=GX.netted g hW hch (nt.wide Plus.sub);exact⟨hgs.1,_,nv',g.netted hch (nt.wide Plus.sub),fun x hx=>(GA.netted_whl x hx).imp (hW x) id⟩⟩
 have HD:Hid (∀w1,(Chg FG w w1/\∃Fn' nv',GA w1 gb pb n win lim bl Fp Fn' st (pl.eraseIdx k) nv'/\∀x,Whl gb pb n Fp Fn' x->Plus FG w x)->∃j:Nat,x1=(j:Int)/\j<n/\∀w5,Below w1.heap.size w1 w5->w5.cell? (aT gb 0)=some (sT pb n n)/\w5.cell? (aT pb j)=some (.pointer (some ⟨bl j,0,none⟩))/\Calls prog 74 #[.pointer (some ⟨bl j,0,none⟩),.string x2] w5 fun e w2=>e=.returned (.tuple #[])/\Calls prog 62 #[pT gb 0,.pointer (some ⟨bl j,0,none⟩)] w2 fun e w3=>e=.returned (.tuple #[])/\∃st',GS w w3 FG gb n win lim st' (pl.eraseIdx k)/\Goes n st (x1,x2) st'):=fun w1 ⟨hch,Fn',nv',g1,hW1⟩=>by
  have hle:(pl.eraseIdx k).length<=1000000:=yr (List.length_eraseIdx_le _ _) hl;obtain⟨j,hj1,hj⟩:∃j:Nat,x1=(j:Int)/\j<n:=by
   obtain⟨j,a,b, -⟩:=g1.deliver hn hW1 hle (x1,x2) hx;exact⟨j,a,b⟩
  refine⟨j,hj1,hj,fun w5 hb=>?_⟩;have g2:=g1.below hb;obtain⟨j',hj1', -,hcall⟩:=g2.deliver hn hW1 hle (x1,x2) hx;obtain rfl:j=j':=by
   have:x1=(j':Int):=hj1';omega
  refine⟨g2.c0,g2.ptr_cell hj,hcall.mono ?_⟩;rintro e w2 ⟨rfl,h⟩;refine⟨rfl,h.mono ?_⟩;rintro e w3 ⟨rfl,st',hgs,hgo⟩;exact⟨rfl,st',GS.trans ⟨hch.trans (Chg.of_below hb),pb,bl,Fp,Fn',nv',g2,hW1⟩ hgs,hgo⟩
 clear g hW hk hx;go_enter Tryz.func42,Tryz.ntmps42
 go_wp2_with fail
 refine HT.out.mono ?_;rintro e w2 ⟨rfl,hr⟩;obtain⟨j,rfl,hj,hall⟩:=HD.out w2 hr;have HB:Hid (Below w2.heap.size w2 (w2.alloc (.cells #[J j,.string x2] 111))):=(yi _ _).alloc (yb _) _;obtain⟨c0,p0, -⟩:=hall _ HB.out;have HALL:Hid _:=hall;have hk0:(0:Int)<=(j:Int):=by omega
 have hk1:(j:Int)<(n:Int):=by omega
 clear hr HT HD hall;have d0:(w2.alloc (.cells #[J j,.string x2] 111)).cell? (aT w2.heap.size 0)=some (J j):=(BlkAt.new w2 w2.heap.size rfl 111 #[J j,.string x2]).cell 0 _ rfl;have d1:(w2.alloc (.cells #[J j,.string x2] 111)).cell? (aT w2.heap.size 1)=some (.string x2):=(BlkAt.new w2 w2.heap.size rfl 111 #[J j,.string x2]).cell 1 _ rfl;go_wp2_with fail
 generalize hX:w2.heap.size=X at d0 d1 HB HALL ⊢;generalize (w2.alloc (.cells #[J j,.string x2] 111))=w5 at d0 d1 c0 p0 HB ⊢;clear hX;go_quiet (fail)
 go_wp2_with fail
 refine(HALL.out _ (below_drewN HB.out _)).2.2.mono ?_;rintro e w3 ⟨rfl,hcall⟩;have HC:Hid (Calls prog 62 _ _ _):=hcall;clear hcall HALL;go_wp2_with fail
 refine HC.out.mono ?_;rintro e w4 ⟨rfl,hr⟩;have HR:Hid (∃st',GS w w4 FG gb n win lim st' (pl.eraseIdx k)/\Goes n st ((j:Int),x2) st'):=hr;clear hr HC;go_wp2_with fail
 go_ret;exact⟨rfl,HR.out⟩
def qrr(i n win:Nat)(t:ByteArray)(s:Pst):Pst:=⟨castKn (qre i n win) s.kn,(s.ms++[ownMsg (qre i n win) s.kn t]).filter (notStable (full n) (castKn (qre i n win) s.kn)),s.evs++[⟨1,0,i,(s.kn.getD i []).getD i 0+1,0,t⟩]⟩
def castOut(i n win:Nat)(t:ByteArray)(s:Pst):List Codec.Frame:=((List.range n).filter fun q=>decide (q≠i)).map fun q=>Mo.dataF n i q (qrr i n win t s).mp (ownMsg (qre i n win) s.kn t)
theorem qfl(i n win:Nat)(t:ByteArray)(s:Pst):(castOut i n win t s).length<=n:=by
 unfold castOut;rw[yL];exact yr (yaR _ _) (by simp)
theorem qpc(hn:n<=6)(gx:GX w FG gb n win lim st pl){i:Nat}(hi:i<n)(hl:pl.length<=10000)(t:ByteArray)(ht:t.size<=16)(hno:∀m∈(st i).ms,isK (ownMsg (qre i n win) (st i).kn t).sender (ownMsg (qre i n win) (st i).kn t).seq m=false)(hlow:∀q,q<n->Kn (st i).kn q i<=Kn (st i).kn i i) :
 Calls prog 56 #[pT gb 0,J i,.string t] w fun e w'=>((e=.returned (J 9)\/e=.returned (J 10))/\GS w w' FG gb n win lim st pl)\/(e=.returned (J 0)/\Mo.Cast n i (ownMsg (qre i n win) (st i).kn t) (st i).mp (qrr i n win t (st i)).mp/\GS w w' FG gb n win lim (setSt st i (qrr i n win t (st i))) (sentAll lim pl ((castOut i n win t (st i)).map par))):=by
 obtain⟨pb,bl,Fp,Fn,nv,g,hW⟩:=gx;have hc:=qbb (win:=win) hi hn;have HH:Hid (Calls prog 64 _ _ _):=qfj i _ _ g.c0 hi;have fin:∀{w1:World} (hch:Chg (Fp i) w w1) {s:Pst}{out:List Codec.Frame},PC w1 (Plus (Fp i) w) (bl i) (qre i n win) s.kn s.ms s.evs (out.map par)->(Ok (qre i n win) s.kn s.ms s.evs/\∀m∈s.ms,Codec.msgFits m=true)->out.length<=n->Calls prog 62 #[pT gb 0,.pointer (some ⟨bl i,0,none⟩)] w1 fun e w2=>e=.returned (.tuple #[])/\GS w w2 FG gb n win lim (setSt st i s) (sentAll lim pl (out.map par)):=fun {w1} hch {s} {out} hp hok hol=>by
  refine(g.carry hi hch hp hok (by rw[yL];omega)).mono ?_;rintro e w2 ⟨rfl,hch2,Fp',Fn',nv',g2,hW2⟩;exact⟨rfl,hch2.mono fun x _ h=>hW x h,pb,bl,Fp',Fn',nv',g2,fun x hx=>(hW2 x hx).imp (hW x) id⟩
 have HT:Hid (Calls prog 97 #[.pointer (some ⟨bl i,0,none⟩),.string t] w fun e w1=>∃c:Int,e=.returned (J c)/\(w1.cell? (aT gb 0)=some (sT pb n n)/\w1.cell? (aT pb i)=some (.pointer (some ⟨bl i,0,none⟩)))/\Calls prog 62 #[pT gb 0,.pointer (some ⟨bl i,0,none⟩)] w1 fun e w2=>e=.returned (.tuple #[])/\(((c=9\/c=10)/\GS w w2 FG gb n win lim st pl)\/(c=0/\Mo.Cast n i (ownMsg (qre i n win) (st i).kn t) (st i).mp (qrr i n win t (st i)).mp/\GS w w2 FG gb n win lim (setSt st i (qrr i n win t (st i))) (sentAll lim pl ((castOut i n win t (st i)).map par))))):=by
  obtain⟨l,hlm,kb,mb,rbs,es,clk,ev,sv,p⟩:=g.proc i hi;have hok:=g.ok i hi;have hnk:(st i).kn.length=n:=p.klen;refine(castC hc (qab i n win) (g.proc i hi) (g.cl i hi) hok.1 (by simp) t ht hno hlow).mono ?_;rintro e w1 ⟨hch,⟨he,hp⟩|⟨rfl,hx,hp⟩⟩
  ·have h0:=fin hch (s:=st i) (out:=[]) hp hok (by simp);rw[qdq] at h0;rcases he with rfl|rfl
   ·exact⟨9,rfl,⟨g.c0' hi hch,g.ptr' hi hch⟩,h0.mono fun e w2 h=>⟨h.1,.inl ⟨.inl rfl,h.2⟩⟩⟩
   ·exact⟨10,rfl,⟨g.c0' hi hch,g.ptr' hi hch⟩,h0.mono fun e w2 h=>⟨h.1,.inl ⟨.inr rfl,h.2⟩⟩⟩
  ·have hrl:((st i).kn.getD i []).length=n:=by
    obtain⟨r, -, -,hrl, -⟩:=p.row_at hi;exact hrl
   have hck:=qhj hc hnk hrl hok.1 hx t ⟨1,0,i,((st i).kn.getD i []).getD i 0+1,0,t⟩ (notStable (full n) (castKn (qre i n win) (st i).kn));have hof:=qee hc hrl hok.1.row hx t ht;have hmo:=qj1 (evs:=(st i).evs) (ms:=(st i).ms) hc hnk hrl hx t ht;refine⟨0,rfl,⟨g.c0' hi hch,g.ptr' hi hch⟩,(fin hch (s:=qrr i n win t (st i)) (out:=castOut i n win t (st i)) ?_ ⟨hck,fun m hm=>?_⟩ (qfl ..)).mono fun e w2 h=>⟨h.1,.inr ⟨rfl,hmo,h.2⟩⟩⟩
   ·rw[show (castOut i n win t (st i)).map par=[]++((List.range n).filter (fun q=>decide (q≠i))).map fun q=>par (Mo.dataF n i q (qrr i n win t (st i)).mp (ownMsg (qre i n win) (st i).kn t)) by rw[List.nil_append,castOut,yaD];rfl];exact hp
   ·rcases yz.1 (yM.1 hm).1 with h1|h1
    ·exact hok.2 m h1
    ·rw[yu] at h1;rw[h1];exact hof
 have c0:=g.c0;have p0:=g.ptr_cell hi;have hk0:(0:Int)<=(i:Int):=by omega
 have hk1:(i:Int)<(n:Int):=by omega
 clear g hW fin hc hno hlow;go_enter Tryz.func56,Tryz.ntmps56
 go_wp2_with fail
 refine HH.out.mono ?_;rintro e w2 ⟨rfl,rfl⟩;go_wp2_with fail
 refine HT.out.mono ?_;rintro e w3 ⟨c,rfl,⟨d0,d1⟩,hcall⟩;have HC3:Hid (Calls prog 62 _ _ _):=hcall;clear hcall HT HH;go_wp2_with fail
 refine HC3.out.mono ?_;rintro e w4 ⟨rfl,hr⟩;have HR:Hid _:=hr;clear hr HC3;go_wp2_with fail
 go_ret;rcases HR.out with ⟨rfl|rfl,h⟩|⟨rfl,h⟩
 ·exact .inl ⟨.inl rfl,h⟩
 ·exact .inl ⟨.inr rfl,h⟩
 ·exact .inr ⟨rfl,h⟩
theorem qj8(l:List Ev):(evCells l).length=l.length * 6:=by
 induction l with
 |nil=>rfl
 | cons e l ih =>
   rw[evCells,List.flatMap_cons,yC,<-evCells,ih,yx];show 6+_=_;omega
theorem qhr(g c:Nat)(evs:List Ev)(w:World)(hc:∀j u,(evCells evs)[j]?=some u->w.cell? (aT g j)=some u)(hn:evs.length<=100000):Calls prog 107 #[sT g evs.length c] w fun e w'=>∃v,e=.returned v/\w'.ownsRow w.heap.size 64 6 v evs.length (evCells evs)/\Below w.heap.size w w':=by
 obtain⟨i0,hi,hz0,hz1,hz2⟩:=info_parts infoEv64;have H0:Hid ((w.alloc (.cells #[] 64)).ownsRow w.heap.size 64 6 (sT w.heap.size 0 0) 0 []):=⟨rfl,.inr ⟨_,_,#[],rfl,yb _,heap_alloc_new w _,yb _,yaA _,rfl,rfl⟩⟩;have HB:Hid (∀j u,(evCells evs)[j]?=some u->(w.alloc (.cells #[] 64)).cell? (aT g j)=some u):=fun j u hj=>(((yi w.heap.size w).alloc (yb _) (.cells #[] 64)).cell (p:=(aT g j)) (yI w _ (hc j u hj))).trans (hc j u hj);have HL:Hid ((evCells evs).length=evs.length * 6):=qj8 evs;have hne:=fun w':World=>Lib.run_eql_slice_nil (P:=prog) w' 35 64 (some ⟨g,0,none⟩) evs.length c 0 0 Tryz.underlying35;simp only[Option.isNone_some] at hne;clear hc;go_enter Tryz.func107,Tryz.ntmps107
 go_wp2_with (at_builtin;refine wpList_append_own_at _ rfl _ _ 35 rfl w.heap.size 64 i0 (.agg #[J 0,J 0,J 0,J 0,J 0,.string ⟨#[]⟩]) 6 56 Tryz.underlying35 hi hz0 hz1 hz2 rfl (by decide) _ _ _ rfl H0.out ⟨g,0,none⟩ evs.length c (evCells evs) rfl ?c0 ?c1 ?c2 ?c3 ?c4 ?c5 ?_)
 case c0=>rw[HL.out]
 case c1=>intro j u hj;rw[add0];exact HB.out j u hj
 case c2=>
  intro u hu;rw[evCells,yaL] at hu;obtain⟨e, -,hu⟩:=hu;simp only[Ev.cells,yF,List.mem_nil_iff,or_false] at hu;rcases hu with rfl|rfl|rfl|rfl|rfl|rfl <;> rfl
 case c3=>unfold maxLen;omega
 case c4=>omega
 case c5=>simp
 intro v w2 ho hg _ _;go_wp2
 go_ret;refine⟨v,rfl,?_,?_⟩
 ·simpa using ho
 ·exact((yi _ _).alloc (yb _) _).trans ⟨hg.os,hg.tape,hg.output,hg.size,fun x hx=>hg.block x (by simp;omega) (fun e=>by injection e with e;simp at e;omega)⟩
theorem qhs(w:World):Calls prog 107 #[sN] w fun e w'=>e=.returned (sN)/\w'=w:=by
 have hne:=fun w':World=>Lib.run_eql_slice_nil (P:=prog) w' 35 64 none 0 0 0 0 Tryz.underlying35;simp only[Option.isNone_none] at hne;go_enter Tryz.func107,Tryz.ntmps107
 go_wp2_with fail
 go_ret;exact⟨rfl,rfl⟩
theorem qj9{F:Nat->Prop}{v:Value}{evs:List Ev}(r:Row w F 64 6 v evs.length (evCells evs))(hn:evs.length<=100000):Calls prog 107 #[v] w fun e w'=>∃v',e=.returned v'/\w'.ownsRow w.heap.size 64 6 v' evs.length (evCells evs)/\Below w.heap.size w w':=by
 rcases r.row.2 with ⟨h1,h0⟩|⟨g,cap,cur,h0, -⟩
 ·rw[h1];refine(qhs w).mono ?_;rintro e w' ⟨rfl,rfl⟩;refine⟨_,rfl,?_,yi _ _⟩;have:evs=[]:=List.length_eq_zero_iff.1 h0;rw[this];exact y9 _ _ _ _
 ·have hob:v.ownBlock=some g:=by rw[h0];rfl
  rw[h0];exact qhr g cap evs w (fun j u hj=>by have:=r.row.cells hob j u hj;rwa [add0] at this) hn
theorem qnr{F:Nat->Prop}{b:Nat}{h:Hd}{kn:List (List Int)}{l:Msgs}{evs:List Ev}{snt:List Par}{kb mb:Nat}{rbs:List Nat}{es:Array MapEntry}{clk:Nat}{ev sv:Value}(p:PA w F b h kn l evs snt kb mb rbs es clk ev sv)(hn:evs.length<=100000):Calls prog 66 #[pT b 0] w fun e w'=>∃v',e=.returned v'/\w'.ownsRow w.heap.size 64 6 v' evs.length (evCells evs)/\Below w.heap.size w w':=by
 have HC:Hid (Calls prog 107 _ _ _):=qj9 p.event hn;have c15:=p.blk.cell 17 _ rfl;simp only[Hd.cells,yf,yd,ye] at c15;clear p;go_enter Tryz.func66,Tryz.ntmps66
 go_wp2_with fail
 refine HC.out.mono ?_;rintro e w2 ⟨v,rfl,hr⟩;have HR:Hid _:=hr;clear hr HC;go_wp2_with fail
 go_ret;exact⟨v,rfl,HR.out⟩
theorem qgi(gx:GX w FG gb n win lim st pl){i:Nat}(hi:i<n)(hl:(st i).evs.length<=100000):Calls prog 35 #[pT gb 0,J i] w fun e w'=>∃v,e=.returned (.tuple #[v,J 0])/\w'.ownsRow w.heap.size 64 6 v (st i).evs.length (evCells (st i).evs)/\Below w.heap.size w w':=by
 obtain⟨pb,bl,Fp,Fn,nv,g,hW⟩:=gx;have HH:Hid (Calls prog 64 _ _ _):=qfj i _ _ g.c0 hi;have HE:Hid (Calls prog 66 #[.pointer (some ⟨bl i,0,none⟩)] w fun e w'=>∃v',e=.returned v'/\w'.ownsRow w.heap.size 64 6 v' (st i).evs.length (evCells (st i).evs)/\Below w.heap.size w w'):=by
  obtain⟨l,hlm,kb,mb,rbs,es,clk,ev,sv,p⟩:=g.proc i hi;exact qnr p hl
 have c0:=g.c0;have p0:=g.ptr_cell hi;have hk0:(0:Int)<=(i:Int):=by omega
 have hk1:(i:Int)<(n:Int):=by omega
 clear g hW;go_enter Tryz.func35,Tryz.ntmps35
 go_wp2_with fail
 refine HH.out.mono ?_;rintro e w2 ⟨rfl,rfl⟩;go_wp2_with fail
 refine HE.out.mono ?_;rintro e w3 ⟨v,rfl,hr⟩;have HR:Hid _:=hr;clear hr HH HE;go_wp2_with fail
 go_ret2
 exact⟨v,rfl,HR.out⟩
end
section
open Go.RowKit
open Go.ChangeMaps (setBlock)
variable {w w':World}{gb pb n win lim:Nat}{bl:Nat->Nat}{Fp:Nat->Nat->Prop}{Fn:Nat->Prop}{st:Nat->Pst}{pl:List Par}{nv:Value}{FG:Nat->Prop}
variable {F:Nat->Prop}{b:Nat}{h:Hd}{kn:List (List Int)}{l:Msgs}{evs:List Ev}{snt:List Par}{kb mb:Nat}{rbs:List Nat}{es:Array MapEntry}{clk:Nat}{ev sv:Value}
theorem qpd{i:Nat}(hi:i<n)(hn:n<=6)(p:PA w F b (qre i n win) kn l evs snt kb mb rbs es clk ev sv):Calls prog 75 #[pT b 0] w fun e w'=>∃g cap,e=.returned (.agg #[.bool true,.bool false,.bool false,J 0,J (full n),J 0,J l.length,sT g n cap])/\w'.ownsRow w.heap.size 3 1 (sT g n cap) n (ints (kn.getD i []))/\Below w.heap.size w w':=by
 obtain⟨r,hr,hbr,hrl, -⟩:=p.row_at (q:=i) hi;have hrl':(kn.getD i []).length=n:=hrl;have HX:Hid (∀w',Below w.heap.size w w'->Calls prog 119 #[pT b 0] w' fun e w''=>e=.returned (sT r n n)/\Below w'.heap.size w' w''/\w''.heap=w'.heap):=fun w' hb=>qar (p.below hb) hr;have HCL:Hid (∀w',Below w.heap.size w w'->Calls prog 118 #[sT r n n] w' fun e w''=>∃g' cap,e=.returned (sT g' n cap)/\w''.ownsRow w'.heap.size 3 1 (sT g' n cap) n (ints (kn.getD i []))/\Below w'.heap.size w' w''):=fun w' hw=>by
  have:=qd3 r n (kn.getD i []) w' (hbr.below hw hbr.lt) (by omega) (by omega);rw[hrl'] at this;exact this
 have HS:Hid (∀w',Below w.heap.size w w'->w'.cell? (aT b 3)=some (.bool false)/\w'.cell? (aT b 4)=some (.bool false)/\w'.cell? (aT b 5)=some (.bool false)/\w'.cell? (aT b 6)=some (J 0)/\w'.cell? (aT b 7)=some (J (full n))/\w'.cell? (aT b 8)=some (J 0)/\w'.cell? (aT b 15)=some (.map (some mb))/\w'.heap[mb]?=some (.map es clk)):=fun w' hw=>by
  have hb':=(p.below hw).blk;exact⟨hb'.cell 3 _ rfl,hb'.cell 4 _ rfl,hb'.cell 5 _ rfl,hb'.cell 6 _ rfl,hb'.cell 7 _ rfl,hb'.cell 8 _ rfl,hb'.cell 15 _ rfl,(p.below hw).map⟩
 have hlen:∀w':World,w'.heap[mb]?=some (.map es clk)->(Builtin.len_ #[156] 3 #[.map (some mb)]).run prog w'=.ok (J l.length) w':=fun w' h=>by
  have:=run_len_map (P:=prog) w' 156 3 mb es clk (by kernel_rfl) h;rw[show es.size=l.length from p.mo.length] at this;exact this
 clear p hbr hr hrl hrl';go_enter Tryz.func75,Tryz.ntmps75
 go_upto_region 1 with fail
 refine Ends.begin (fun w'=>w'.cell? (aT b 3)=some (.bool false)/\w'.cell? (aT b 4)=some (.bool false)/\w'.cell? (aT b 5)=some (.bool false)/\w'.cell? (aT b 6)=some (J 0)/\w'.cell? (aT b 7)=some (J (full n))/\w'.cell? (aT b 8)=some (J 0)/\w'.cell? (aT b 15)=some (.map (some mb))/\w'.heap[mb]?=some (.map es clk)) 34 (by kernel_rfl) (HS.out _ (((yi _ _).alloc (yb _) _).drew)) (fun hHeld=>?_);refine tk 0 ?_;refine tk 1 ?_;refine tk 2 ?_;refine tk 3 ?_;refine tk 4 ?_;refine tk 5 ?_;refine tk 6 ?_;refine tk 7 ?_;refine tk 8 ?_;refine tk 9 ?_;refine tk 10 ?_;refine tk 11 ?_;refine tk 12 ?_;refine tk 13 ?_;refine tk 14 ?_;refine tk 15 ?_;refine tk 16 ?_;refine tk 17 ?_;refine tk 18 ?_;refine tk 19 ?_;refine tk 20 ?_;refine tk 21 ?_;refine tk 22 ?_;refine tk 23 ?_;refine tk 24 ?_;refine tk 25 ?_;refine tk 26 ?_;refine tk 27 ?_;refine tk 28 ?_;refine tk 29 ?_;refine tk 30 ?_;refine te 31 fun K hK=>?_;go_simp;refine(HX.out _ (((yi _ _).alloc (yb _) _).drew)).mono ?_;rintro e w1 ⟨rfl,hb1, -⟩;have hbR:=(((yi w.heap.size w).alloc (yb _) _).drew).trans (hb1.mono (by simp));go_wp2_with fail
 refine hK.out _ _ (fun _=>HS.out _ hbR) (fun _=>?_);clear hK K hHeld;have hHeld:=HS.out _ hbR;try simp only[pU]
 refine te 32 fun K hK=>?_;go_simp;refine(HCL.out _ hbR).mono ?_;rintro e w2 ⟨g,cap,rfl,hov,hbv⟩;have hbC:=hbR.trans (hbv.mono hbR.size);have hB2:Below (w.heap.size+1) _ w2:=(hb1.mono (by simp)).trans (hbv.mono (by have:=hb1.size;simpa using this));have hPr:=(BlkAt.new w w.heap.size rfl 71 #[.bool false,.bool false,.bool false,J 0,J 0,J 0,J 0,sN]).drew.below hB2 (by omega);go_wp2_with fail
 refine hK.out _ _ (fun _=>HS.out _ hbC) (fun _=>?_);clear hK K hHeld;have hHeld:=HS.out _ hbC;try simp only[pU]
 refine tk 33 ?_;obtain⟨p0,p1,p2,p3,p4,p5,p6,p7,r0,r1,r2,r3,r4,r5,r6,r7⟩:=hPr.facts8;refine te 34 fun K hK=>?_;go_simp;refine hK.out _ _ (fun h=>absurd rfl h) (fun _=>?_);clear hK K;try simp only[pU]
 refine Ends.done (by kernel_rfl) ?_ _;go_wp2_with fail
 obtain⟨hPf,hOn⟩:=store8 hPr (.bool true) (.bool false) (.bool false) (J 0) (J (full n)) (J 0) (J l.length) (sT g n cap);clear p0 p1 p2 p3 p4 p5 p6 p7 r0 r1 r2 r3 r4 r5 r6 r7;refine qec (p:=bodyPost _ _ _ _ _) _ (fun wf hwf=>?_);rw[<-hwf.out] at hPf hOn;clear hwf;obtain⟨p0,p1,p2,p3,p4,p5,p6,p7, -⟩:=hPf.facts8;have hsz1:=hb1.size;simp at hsz1;refine bodyPost_ret (v:=.agg #[.bool true,.bool false,.bool false,J 0,J (full n),J 0,J l.length,sT g n cap]) (by simp[results,Tryz.results75,go_sem,p0,p1,p2,p3,p4,p5,p6,p7]) rfl ⟨g,cap,rfl,?_,?_⟩
 ·exact qd (qf hov (by omega)) fun x hx=>hOn.block x (by have:=(hov.lt x hx).1;omega)
 ·exact hbC.trans (hOn.below (yb _))
theorem qpe(hn:n<=6)(gx:GX w FG gb n win lim st pl){i:Nat}(hi:i<n):Calls prog 43 #[pT gb 0,J i] w fun e w'=>
 ∃gr cap,e=.returned (.tuple #[.agg #[.bool true,.bool false,.bool false,J 0,J (full n),J 0,J (st i).ms.length,sT gr n cap],J 0])/\w'.ownsRow w.heap.size 3 1 (sT gr n cap) n (ints ((st i).kn.getD i []))/\Below w.heap.size w w':=by
 obtain⟨pb,bl,Fp,Fn,nv,g,hW⟩:=gx;have hB0:Below w.heap.size w (w.alloc (.cells #[.bool false,.bool false,.bool false,J 0,J 0,J 0,J 0,sN] 71)):=(yi _ _).alloc (yb _) _;have g1:=g.below hB0;have hPr:=BlkAt.new w w.heap.size rfl 71 #[.bool false,.bool false,.bool false,J 0,J 0,J 0,J 0,sN];have HH:Hid (Calls prog 64 _ _ _):=qfj i _ _ g1.c0 hi;have HE:Hid (Calls prog 75 #[.pointer (some ⟨bl i,0,none⟩)] (w.alloc (.cells #[.bool false,.bool false,.bool false,J 0,J 0,J 0,J 0,sN] 71)) fun e w'=>∃g cap,e=.returned (.agg #[.bool true,.bool false,.bool false,J 0,J (full n),J 0,J (st i).ms.length,sT g n cap])/\w'.ownsRow (w.alloc (.cells #[.bool false,.bool false,.bool false,J 0,J 0,J 0,J 0,sN] 71)).heap.size 3 1 (sT g n cap) n (ints ((st i).kn.getD i []))/\Below (w.alloc (.cells #[.bool false,.bool false,.bool false,J 0,J 0,J 0,J 0,sN] 71)).heap.size (w.alloc (.cells #[.bool false,.bool false,.bool false,J 0,J 0,J 0,J 0,sN] 71)) w'):=by
  obtain⟨l,hlm,kb,mb,rbs,es,clk,ev,sv,p⟩:=g1.proc i hi;have hlm':(st i).ms.length=l.length:=by rw[<-hlm,yL]
  rw[hlm'];exact qpd hi hn p
 have c0:=g1.c0;have p0:=g1.ptr_cell hi;have hk0:(0:Int)<=(i:Int):=by omega
 have hk1:(i:Int)<(n:Int):=by omega
 clear g hW g1 hB0;go_enter Tryz.func43,Tryz.ntmps43
 go_wp2_with fail
 refine HH.out.mono ?_;rintro e w2 ⟨rfl,rfl⟩;go_wp2_with fail
 refine HE.out.mono ?_;rintro e w2 ⟨gr,cap,rfl,hov,hbv⟩;have hPr2:=hPr.below hbv (by simp);obtain⟨p0,p1,p2,p3,p4,p5,p6,p7,r0,r1,r2,r3,r4,r5,r6,r7⟩:=hPr2.facts8;clear HH HE c0;go_wp2_with fail
 obtain⟨hPf,hOn⟩:=store8 hPr2 (.bool true) (.bool false) (.bool false) (J 0) (J (full n)) (J 0) (J (st i).ms.length) (sT gr n cap);clear p0 p1 p2 p3 p4 p5 p6 p7 r0 r1 r2 r3 r4 r5 r6 r7;refine qec (p:=bodyPost _ _ _ _ _) _ (fun wf hwf=>?_);rw[<-hwf.out] at hPf hOn;clear hwf;obtain⟨p0,p1,p2,p3,p4,p5,p6,p7, -⟩:=hPf.facts8;refine bodyPost_ret (v:=.tuple #[.agg #[.bool true,.bool false,.bool false,J 0,J (full n),J 0,J (st i).ms.length,sT gr n cap],J 0]) (by simp[results,Tryz.results43,go_sem,p0,p1,p2,p3,p4,p5,p6,p7]) rfl ⟨gr,cap,rfl,?_,?_⟩
 ·exact qd (qf hov (by simp)) fun x hx=>hOn.block x (by have:=(hov.lt x hx).1;simp at this;omega)
 ·exact(((yi _ _).alloc (yb _) _).trans (hbv.mono (by simp))).trans (hOn.below (yb _))
end
section
open Go.RowKit
open Go.ChangeMaps (setBlock)
def newSt(n:Nat):Pst:=⟨List.replicate n (List.replicate n 0),[],[]⟩
theorem qde{n i:Nat}(hi:i<n):(newSt n).kn.getD i []=List.replicate n 0:=by
 rw[newSt,yj,yaW,if_pos hi];rfl
theorem qkx{n:Nat}{cs:Array Value}{rbs:List Nat}{f:Nat->Value}(hcs:cs.size=n)(hr:rbs.length=n)(h:∀(q r:Nat),rbs[q]?=some r->cs[q]?=some (f r)):(rbs.map f).toArray=cs:=by
 apply Array.ext
 ·simp[hcs,hr]
 ·intro q h1 h2;have hq:q<rbs.length:=by omega
  have:=h q _ (yh hq);rw[yl h2] at this;simp at this;simp[this]
theorem qlv(p n win:Nat)(w:World)(hn:n<=6):Calls prog 69 #[J p,J n,J win] w fun e w'=>∃b,e=.returned (pT b 0)/\PX w' (fun x=>w.heap.size<=x/\x<w'.heap.size) b (qre p n win) (newSt n).kn (newSt n).ms (newSt n).evs []/\Below w.heap.size w w':=by
 have hmk:=qo2 n hn;have hmm:=fun u:World=>run_makeMap_plain (P:=prog) u 156;obtain⟨i0,hi,hz0,hz1,hz2⟩:=info_parts infoInts;go_enter Tryz.func69,Tryz.ntmps69
 go_upto_region 1 with fail
 go_cut [7] (fun s wx=>∃b kb mb,s=pT b 0/\w.heap.size<=b/\w.heap.size<=kb/\w.heap.size<=mb/\BlkAt wx b 159 #[J p,J n,J win,.bool false,.bool false,.bool false,J 0,J (full n),J 0,J 0,J 0,J 0,sN,.pointer none,
  sT kb n n,.map (some mb),sN,sN,sN]/\wx.heap[mb]?=some (.map #[] 0)/\BlkAt wx kb 69 (Array.replicate n (Value.slice none 0 0))/\Below w.heap.size w wx)
 case first=>
  go_region_held3 (fun _=>True) (trivial) (first|(go_at_call 108;refine(qdx n _ hn).mono ?_;rintro e w' ⟨rfl,rfl⟩))
  all_goals (go_wp2_with fail;go_meet)
  all_goals first
   | (obtain ⟨t1, t2, t3, t4⟩ := three w (.map #[] 0) (.cells (Array.replicate n (Value.slice none 0 0)) 69) (.cells #[J p, J n, J win, .bool false, .bool false, .bool false, J 0, J (full n), J 0, J 0, J 0, J 0, sN, .pointer none, .slice (some ⟨w.heap.size + 1, 0, none⟩) n n, .map (some w.heap.size), sN, sN, sN] 159)
      exact⟨w.heap.size+1+1,w.heap.size+1,w.heap.size,rfl,by omega,by omega,by omega,t3,t1,t2,t4.drew⟩)
   | (obtain ⟨t1, t2, t3, t4⟩ := three w (.cells (Array.replicate n (Value.slice none 0 0)) 69) (.map #[] 0) (.cells #[J p, J n, J win, .bool false, .bool false, .bool false, J 0, J (full n), J 0, J 0, J 0, J 0, sN, .pointer none, sT w.heap.size n n, .map (some (w.heap.size + 1)), sN, sN, sN] 159)
      exact⟨w.heap.size+1+1,w.heap.size,w.heap.size+1,rfl,by omega,by omega,by omega,t3,t2,t1,t4.drew⟩)
 case rest=>
  obtain⟨b,kb,mb,rfl,hb1,hk1,hm1,HB,HM,HK,hbel⟩:=hcut;have c14:=HB.cell 14 _ rfl;simp only[yf,yd,ye] at c14;go_wp2
  go_loopw [24] (fun i wr=>∃k:Nat,k<=n/\i=J k/\BlkAt wr b 159 #[J p,J n,J win,.bool false,.bool false,.bool false,J 0,J (full n),J 0,J 0,J 0,J 0,sN,.pointer none,sT kb n n,.map (some mb),sN,sN,sN]/\wr.heap[mb]?=some (.map #[] 0)/\Below w.heap.size w wr/\
   ∃cs:Array Value,BlkAt wr kb 69 cs/\cs.size=n/\∃rbs:List Nat,rbs.length=k/\rbs.Nodup/\(∀r∈rbs,w.heap.size<=r/\BlkAt wr r 3 (ints (List.replicate n 0)).toArray)/\∀(q r:Nat),rbs[q]?=some r->cs[q]?=some (Value.slice (some ⟨r,0,none⟩) n n)) (fun i _=>n - (intOf i).toNat)
  case atStart=>exact⟨0,by omega,rfl,HB,HM,hbel,_,HK,by simp,[],rfl,List.nodup_nil,fun r hr=>absurd hr yU,fun q r hq=>absurd hq (by simp)⟩
  case round=>
   clear HB HM HK hbel c14;obtain⟨k,hk,rfl,HB,HM,hbel,cs,HK,hcs,rbs,hrk,hnd,hrows,hcells⟩:=hrel;have c14:=HB.cell 14 _ rfl;simp only[yf,yd,ye] at c14;by_cases hlt:k<n
   ·have hk0:(0:Int)<=(k:Int):=Int.natCast_nonneg _;have hk1':(k:Int)<(n:Int):=by omega
    have hm2:=qm5 n hn;obtain⟨u,hu⟩:∃u,cs[k]?=some u:=⟨_,yl (show k<cs.size by omega)⟩;have HB2:=HB.alloc (.cells (ints (List.replicate n 0)).toArray 3);have HK2:=HK.alloc (.cells (ints (List.replicate n 0)).toArray 3);have q1:=HK2.cell k u hu;have q2:=HK2.frozen k;have HBd:Hid (BlkAt wr b 159 _):=HB;have HB2d:Hid (BlkAt _ b 159 _):=HB2;have HK2d:Hid (BlkAt _ kb 69 _):=HK2;have HMd:Hid (wr.heap[mb]?=some (.map #[] 0)):=HM;have HRd:Hid (rbs.Nodup/\(∀r∈rbs,w.heap.size<=r/\BlkAt wr r 3 (ints (List.replicate n 0)).toArray)/\∀(q r:Nat),rbs[q]?=some r->cs[q]?=some (Value.slice (some ⟨r,0,none⟩) n n)):=⟨hnd,hrows,hcells⟩;clear HB HK HB2 HK2 HM hrows hu hnd hcells;go_upto_region 5 with fail
    refine Ends.begin (fun w'=>w'.cell? (aT b 14)=some (sT kb n n)) 8 (by kernel_rfl) (HBd.out.drew.cell 14 _ rfl) (fun hHeld=>?_);refine tk 0 ?_;refine tk 1 ?_;refine tk 2 ?_;refine tk 3 ?_;refine tk 4 ?_;refine tk 5 ?_;refine te 6 fun K hK=>?_;go_simp;refine hK.out _ _ (fun _=>HB2d.out.drew.cell 14 _ rfl) (fun _=>?_);clear hK K hHeld;have hHeld:=HB2d.out.drew.cell 14 _ rfl;simp only[yf,yd,ye] at hHeld;try simp only[pU]
    refine tk 7 ?_;refine te 8 fun K hK=>?_;go_simp;refine hK.out _ _ (fun h=>absurd rfl h) (fun _=>?_);clear hK K;try simp only[pU]
    refine Ends.done (by kernel_rfl) ?_ _;go_wp2_with fail
    go_roundw
    case rel=>
     have hne1:b≠kb:=qbo HB2d.out HK2d.out (by decide);have hne2:mb≠kb:=fun e=>by
      have hh:=HK2d.out;have hm3:(wr.alloc (.cells (ints (List.replicate n 0)).toArray 3)).heap[mb]?=some (.map #[] 0):=(yQ _ _ _ (yk.1 HMd.out).1).trans HMd.out;exact qp5 hh hm3 e.symm
     have hsz:=hbel.size;refine⟨k+1,by omega,by go_num,(HB2d.out.other hne1 _ _).drew,?_,((hbel.alloc (by omega) _).trans (((Only.refl kb _).set k _).below hk1)).drew,cs.setIfInBounds k _,(HK2d.out.set k _).drew,by simpa using hcs,rbs++[wr.heap.size],by simp[hrk],?_,fun r hr=>?_,fun q r hq=>?_⟩
     ·exact(yT _ _ _ _ hne2).trans ((yQ _ _ _ (yk.1 HMd.out).1).trans HMd.out)
     ·rw[yaE];refine⟨HRd.out.1,by simp,fun x hx y hy e=>?_⟩;rw[yu] at hy;have:=(HRd.out.2.1 x hx).2.lt;omega
     ·rcases yz.1 hr with hr|hr
      ·obtain⟨h2,h3⟩:=HRd.out.2.1 r hr;have h4:=h3.alloc (.cells (ints (List.replicate n 0)).toArray 3);exact⟨h2,(h4.other (qbo h4 HK2d.out (by decide)) _ _).drew⟩
      ·rw[yu] at hr;subst hr;have h4:=BlkAt.new wr wr.heap.size rfl 3 (ints (List.replicate n 0)).toArray;exact⟨by omega,(h4.other (qbo h4 HK2d.out (by decide)) _ _).drew⟩
     ·rcases ya3 q k with hqk|hqk
      ·rw[y7 (by omega)] at hq;rw[yP (by omega)];exact HRd.out.2.2 q r hq
      ·rw[yaw (by omega)] at hq;have hqe:q=k:=by
        have:=(ym.1 hq).1;simp at this;omega
       subst hqe;rw[hrk,Nat.sub_self] at hq;obtain rfl:wr.heap.size=r:=by simpa using hq
       rw[yR (by omega)]
    case measure=>simp[intOf];omega
   ·have hkn:k=n:=by omega
    have hkn1:¬(k:Int)<(n:Int):=by omega
    have HF:Hid (∃b',b'=b/\PX wr (fun x=>w.heap.size<=x/\x<wr.heap.size) b' (qre p n win) (newSt n).kn (newSt n).ms (newSt n).evs []):=by
     refine⟨b,rfl,[],rfl,kb,mb,rbs,#[],0,sN,sN,HB,⟨hrk.trans hkn,yaQ ..,hnd,?_,fun q r l hq hl=>?_⟩,HM,⟨rfl,rfl,List.nodup_nil,fun e he=>absurd he yU⟩,List.Pairwise.nil,fun x hx=>absurd hx yU,⟨y9 _ _ _ _,fun g hg=>by cases hg⟩,⟨y9 _ _ _ _,fun g hg=>by cases hg⟩,⟨hb1,HB.lt⟩,⟨hk1,HK.lt⟩,⟨hm1,(yk.1 HM).1⟩,fun r hr=>⟨(hrows r hr).1,(hrows r hr).2.lt⟩⟩
     ·show BlkAt wr kb 69 (rbs.map fun r=>Value.slice (some ⟨r,0,none⟩) n n).toArray;rw[qkx hcs (hrk.trans hkn) hcells];exact HK
     ·obtain⟨hq2,hl2⟩:=ym.1 hl;have hl3:List.replicate n (0:Int)=l:=by simpa[newSt] using hl2
      rw[<-hl3];exact⟨yaQ ..,(hrows r (yy hq)).2⟩
    have HBl:Hid (Below w.heap.size w wr):=hbel;clear HB HM HK hrows hbel hnd hcells;go_wp2
    go_ret;obtain⟨b',rfl,hx⟩:=HF.out;exact⟨b',rfl,hx,HBl.out⟩
end
section
open Go.RowKit
open Go.ChangeMaps (setBlock)
open Go.Pm (Perm Loose frame_calls)
open Go.Cr (fam Tabs leafLaw progOk)
theorem infoPtrG:(prog.info? 102).map (fun i=>(i.zero,i.size,i.bytes))=some (some (.pointer none),1,8):=by kernel_rfl
theorem mkPtrsG(n:Nat)(hn:n<=6)(u:World):(Instr.makeSlice 93 (J n) (J n)).run prog u=.ok (sT u.heap.size n n) (u.alloc (.cells (Array.replicate n (Value.pointer none)) 102)):=by
 obtain⟨i0,hi,hz0,hz1,hz2⟩:=info_parts infoPtrG;have h:=run_make (P:=prog) u 93 102 i0 (.pointer none) Tryz.underlying93 hi hz0 .i64 .i64 (n:Int) (n:Int) (by omega) (yaY _) (by rw[hz2];omega) (by omega);rw[yai] at h;have e2:madeCells (Value.pointer none).cells (n * i0.size)=(Array.replicate n (Value.pointer none)):=by
  rw[hz1,Nat.mul_one];apply Array.ext';rw[show (Value.pointer none).cells=#[Value.pointer none] from rfl,toList_madeCells_one];simp
 rw[e2] at h;exact h
theorem fourG(w:World)(o0 o1 o2 o3:Obj):((((w.alloc o0).alloc o1).alloc o2).alloc o3).heap[w.heap.size]?=some o0/\((((w.alloc o0).alloc o1).alloc o2).alloc o3).heap[w.heap.size+1]?=some o1/\((((w.alloc o0).alloc o1).alloc o2).alloc o3).heap[w.heap.size+1+1]?=some o2/\((((w.alloc o0).alloc o1).alloc o2).alloc o3).heap[w.heap.size+1+1+1]?=some o3/\Below w.heap.size w ((((w.alloc o0).alloc o1).alloc o2).alloc o3):=by
 obtain⟨h1,h2,h3,h4⟩:=three (w.alloc o0) o1 o2 o3;have s0:(w.alloc o0).heap.size=w.heap.size+1:=by simp
 rw[s0] at h1 h2 h3 h4;exact⟨(h4.block _ (by omega)).trans (heap_alloc_new w o0),h1,h2,h3,((yi _ _).alloc (yb _) o0).trans (h4.mono (by omega))⟩
variable {w w':World}{gb pb n win lim:Nat}{bl:Nat->Nat}{Fp:Nat->Nat->Prop}{Fn:Nat->Prop}{st:Nat->Pst}{pl:List Par}{nv:Value}{FG:Nat->Prop}
theorem qpf{i n:Nat}(win:Nat)(hi:i<n)(hn:n<=6):Ok (qre i n win) (newSt n).kn (newSt n).ms (newSt n).evs/\∀m∈(newSt n).ms,Codec.msgFits m=true:=by
 refine⟨⟨fun m hm=>absurd hm yU,fun q hq=>?_,?_⟩,fun m hm=>absurd hm yU⟩
 ·rw[show (newSt n).kn.getD (qre i n win).num []=List.replicate n 0 from qde hi,yj,yaW];split <;> exact⟨by decide,by decide⟩
 ·rw[show (newSt n).kn.getD (qre i n win).num []=List.replicate n 0 from qde hi];simp only[newSt,room,List.map_replicate,List.sum_replicate_nat,yD];show 0+n * 20<=1000;omega
theorem PC.kept{F:Nat->Prop}{b:Nat}{h:Hd}{kn:List (List Int)}{ms:List Codec.Msg}{evs:List Ev}{snt:List Par}(p:PC w F b h kn ms evs snt)(hk:∀x,F x->w'.heap[x]?=w.heap[x]?)(hlo:∀x,x<7->w'.heap[x]?=w.heap[x]?)(hsz:w.heap.size<=w'.heap.size):PC w' F b h kn ms evs snt:=by
 obtain⟨F1,h1,h2,h3⟩:=p;exact⟨F1,h1,h2.kept fun x hx _=>hk x (h1 x hx),h3.kept (fun x hx=>hk x (h1 x hx)) hlo hsz⟩
theorem procNewC(p n win:Nat)(w:World)(hn:n<=6)(hT:Tabs w)(h10:7<=w.heap.size):Calls prog 69 #[J p,J n,J win] w fun e w'=>∃b,e=.returned (pT b 0)/\PC w' (fun x=>w.heap.size<=x/\x<w'.heap.size) b (qre p n win) (newSt n).kn (newSt n).ms (newSt n).evs []/\Below w.heap.size w w':=by
 have c:Cl w (fun _=>False):=⟨hT,h10,fun x hx=>hx.elim⟩;obtain⟨ws,π,hL,hS,hTs,hI,hto, -, -, -⟩:=c.small;have hws:ws.heap.size<=7:=Nat.le_of_not_lt fun hlt=>hto 7 (yb _) hlt;have h0:=frame_calls progOk leafLaw hI hTs hT (f:=69) rfl rfl (args:=#[J p,J n,J win]) (fun v hv=>by
  intro σ _;simp at hv;rcases hv with rfl|rfl|rfl <;> simp) (qlv p n win ws hn) (fun e w1 h1=>by
  obtain⟨b,h2, -⟩:=h1;exact⟨_,h2⟩)
 have hargs:(#[Value.int .i64 p,J n,J win].map (Value.pm π))=#[J p,J n,J win]:=by simp
 rw[hargs] at h0;refine h0.mono ?_;rintro e w1 ⟨v,w2,π',rfl,⟨b,hb,hp, -⟩,hr, -⟩;injection hb with hb;subst hb;have hl':Loose fam π' w2 w1:=⟨hr.sim.obj,hr.sim.ids,hr.sim.low,hr.sim.lowa,hr.sim.os,fun f=>by rw[hr.rest.1];exact hL.g f,hr.rest.2.2.trans hL.b⟩;have hfr:∀x,x<w.heap.size->w1.heap[x]?=w.heap[x]?:=fun x hx=>hr.frame x hx fun r h1 h2 _=>hto r h1 h2;have hlv:∀r,(ws.heap.size<=r/\r<w2.heap.size)->7<=r:=fun r hx=>by
  have:7<=ws.heap.size:=hL.low;omega
 refine⟨π'.f b,by simp[Addr.pm],⟨fun x=>∃r,7<=r/\r<w2.heap.size/\π'.f r=x,fun x hx=>?_,?_,Cl.of_loose hl' hr.shut (qae hT fun x hx=>hfr x (by omega))⟩,⟨hr.sim.os.trans (hr.os.trans hL.os.symm),hr.tapea,hr.outa,hr.growa,hfr⟩⟩
 ·obtain⟨r,h1,h2,rfl⟩:=hx;exact⟨hr.fresh r (by omega) h2,hr.sim.lt h2⟩
 ·exact(hp.along (ρ:=π') (w2:=w1) (fun r o hx ho=>hr.sim.obj r o (hlv r hx) ho) (qab p n win)).wide fun x hx=>⟨π'.i x,hlv _ hx,hx.2,π'.fi x⟩
structure Made (w:World) (L k n win:Nat) (cs:Array Value) (bl lo hi:Nat->Nat):Prop where
 cell:∀q,q<k->cs[q]?=some (.pointer (some ⟨bl q,0,none⟩))
 low:∀q,q<k->L<=lo q
 high:∀q,q<k->hi q<=w.heap.size
 row:∀q r,q<r->r<k->hi q<=lo r
 proc:∀q,q<k->PC w (fun x=>lo q<=x/\x<hi q) (bl q) (qre q n win) (newSt n).kn (newSt n).ms (newSt n).evs []
def put1(f:Nat->Nat)(k v:Nat):Nat->Nat:=fun q=>if q=k then v else f q
theorem qbc(f:Nat->Nat)(k v:Nat):put1 f k v k=v:=if_pos rfl
theorem qb3(f:Nat->Nat){k q:Nat}(v:Nat)(h:q<k):put1 f k v q=f q:=if_neg (by omega)
theorem Made.next{L k x ps:Nat}{cs:Array Value}{lo hi:Nat->Nat}{w1:World}(m:Made w L k n win cs bl lo hi)(hk:k<cs.size)(hL:L<=w.heap.size)(hps:ps<L)(h10:7<=ps)(hb:Below w.heap.size w w1)(hp:PC w1 (fun y=>w.heap.size<=y/\y<w1.heap.size) x (qre k n win) (newSt n).kn (newSt n).ms (newSt n).evs [])(v:Value)(hv:v=pT x 0) :
 Made (w1.setCell ⟨ps,k,none⟩ v) L (k+1) n win (cs.setIfInBounds k v) (put1 bl k x) (put1 lo k w.heap.size) (put1 hi k w1.heap.size):=by
 subst hv;have hOn:=(Only.refl ps w1).set k (Value.pointer (some ⟨x,0,none⟩));have hsz:=hb.size;refine⟨fun q hq=>?_,fun q hq=>?_,fun q hq=>?_,fun q r hqr hr=>?_,fun q hq=>?_⟩
 ·rcases ya3 q k with h|h
  ·rw[qb3 _ _ h,yP (by omega)];exact m.cell q h
  ·obtain rfl:q=k:=by omega
   rw[qbc,yR hk]
 ·rcases ya3 q k with h|h
  ·rw[qb3 _ _ h];exact m.low q h
  ·obtain rfl:q=k:=by omega
   rw[qbc];exact hL
 ·rw[hOn.size];rcases ya3 q k with h|h
  ·rw[qb3 _ _ h];exact yr (m.high q h) hsz
  ·obtain rfl:q=k:=by omega
   rw[qbc];exact yb _
 ·rcases ya3 r k with h|h
  ·rw[qb3 _ _ h,qb3 _ _ (show q<k by omega)];exact m.row q r hqr h
  ·obtain rfl:r=k:=by omega
   rw[qbc,qb3 _ _ hqr];exact m.high q hqr
 ·rcases ya3 q k with h|h
  ·rw[qb3 _ _ h,qb3 _ _ h,qb3 _ _ h];have h1:=m.low q h;exact((m.proc q h).below hb).kept (fun y hy=>hOn.block y (by omega)) (fun y hy=>hOn.block y (by omega)) (by rw[hOn.size];exact yb _)
  ·obtain rfl:q=k:=by omega
   rw[qbc,qbc,qbc];exact hp.kept (fun y hy=>hOn.block y (by omega)) (fun y hy=>hOn.block y (by omega)) (by rw[hOn.size];exact yb _)
theorem Made.ga{L:Nat}{cs:Array Value}{lo hi:Nat->Nat}(m:Made w L n n win cs bl lo hi)(hn:n<=6)(hgb:gb<L)(hpb:pb<L)(h10:7<=gb/\7<=pb)(hne:gb≠pb)(hG:BlkAt w gb 97 #[sT pb n n,J lim,sN])(hP:BlkAt w pb 102 cs)(hcs:cs.size=n):∃Fp:Nat->Nat->Prop,(∀q x,q<n->Fp q x->lo q<=x/\x<hi q)/\GA w gb pb n win lim bl Fp (fun _=>False) (fun _=>newSt n) [] (sN):=by
 have hch:∀q,∃F1:Nat->Prop,q<n->(∀x,F1 x->lo q<=x/\x<hi q)/\PX w F1 (bl q) (qre q n win) (newSt n).kn (newSt n).ms (newSt n).evs []/\Cl w F1:=fun q=>by
  by_cases hq:q<n
  ·obtain⟨F1,h1⟩:=m.proc q hq;exact⟨F1,fun _=>h1⟩
  ·exact⟨fun _=>False,fun h=>absurd h hq⟩
 obtain⟨Fp,hFp⟩:=Classical.axiomOfChoice hch;refine⟨Fp,fun q x hq hx=>(hFp q hq).1 x hx,?_⟩;refine⟨⟨hG,y9 _ _ _ _,fun g hg=>by cases hg⟩,?_,fun i hi=>(hFp i hi).2.1,fun i hi=>qpf win hi hn,fun i j x hi hj hx hy=>?_,fun i x hi hx h=>h,fun i hi=>?_,⟨id,id⟩,hne,fun i x hi hx=>?_,fun x hx=>hx.elim,fun i hi=>(hFp i hi).2.2,h10,fun x hx=>hx.elim⟩
 ·rw[qkx (n:=n) (cs:=cs) (rbs:=List.range n) (f:=fun i=>Value.pointer (some ⟨bl i,0,none⟩)) hcs (by simp) fun q r hr=>?_]
  ·exact hP
  ·obtain⟨h1,h2⟩:=ym.1 hr;simp at h1 h2;subst h2;exact m.cell q h1
 ·have h1:=(hFp i hi).1 x hx;have h2:=(hFp j hj).1 x hy;rcases yaX i j with h|h|h
  ·have:=m.row i j h hj;omega
  ·exact h
  ·have:=m.row j i h hi;omega
 ·have:=m.low i hi;exact⟨fun h=>by have:=(hFp i hi).1 _ h;omega,fun h=>by have:=(hFp i hi).1 _ h;omega⟩
 ·have h1:=(hFp i hi).1 x hx;have:=m.high i hi;omega
theorem qqv(n b c:Nat)(w:World)(h:(1<=n/\n<=6)/\(1<=b/\b<=8)/\1<=c/\c<=4000)(hT:Tabs w)(h10:7<=w.heap.size):Calls prog 38 #[.agg #[J n,J b,J c]] w fun e w'=>∃g,e=.returned (.tuple #[pT g 0,J 0])/\GX w' (fun x=>w.heap.size<=x) g n b c (fun _=>newSt n) []/\Below w.heap.size w w':=by
 obtain⟨⟨h1,h2⟩,⟨h3,h4⟩,h5,h6⟩:=h;have hn:n<=6:=by omega
 have k1:¬(n:Int)<1:=by omega
 have k2:¬(6:Int)<n:=by omega
 have k3:¬(b:Int)<1:=by omega
 have k4:¬(8:Int)<b:=by omega
 have k5:¬(c:Int)<1:=by omega
 have k6:¬(4000:Int)<c:=by omega
 have hmk:=mkPtrsG n hn;have HTB:Hid (∀w',Below w.heap.size w w'->Tabs w'/\7<=w'.heap.size):=fun w' hb=>⟨qae hT fun x hx=>hb.block x (by omega),yr h10 hb.size⟩;have H10:Hid (7<=w.heap.size):=h10;clear h1 h2 h3 h4 h5 h6 hT h10;go_enter Tryz.func38,Tryz.ntmps38
 go_upto_region 3 with fail
 go_cut [4] (fun s wx=>∃g ps,s=pT g 0/\w.heap.size<=g/\w.heap.size<=ps/\BlkAt wx g 97 #[sT ps n n,J c,sN]/\BlkAt wx ps 102 (Array.replicate n (Value.pointer none))/\BlkAt wx w.heap.size 23 #[J n,J b,J c]/\Below w.heap.size w wx)
 case first=>
  go_region_held3 (fun w'=>w'.cell? (aT w.heap.size 0)=some (J n)/\w'.cell? (aT w.heap.size 2)=some (J c)) (simp[go_sem,World.cell?_alloc_past]) (first|(go_at_call 68;refine(qlm c _).mono ?_;rintro e w' ⟨rfl,rfl⟩))
  all_goals (go_wp2_with fail;go_meet)
  all_goals first
   | (obtain ⟨t0, t1, t2, t3, t4⟩ := fourG w (.cells #[J n, J b, J c] 23) (.cells #[J c, sN] 95) (.cells (Array.replicate n (Value.pointer none)) 102) (.cells #[.slice (some ⟨w.heap.size + 1 + 1, 0, none⟩) n n, J c, sN] 97)
      exact⟨w.heap.size+1+1+1,w.heap.size+1+1,rfl,by omega,by omega,t3,t2,t0,t4.drew⟩)
   | (obtain ⟨t0, t1, t2, t3, t4⟩ := fourG w (.cells #[J n, J b, J c] 23) (.cells (Array.replicate n (Value.pointer none)) 102) (.cells #[J c, sN] 95) (.cells #[.slice (some ⟨w.heap.size + 1, 0, none⟩) n n, J c, sN] 97)
      exact⟨w.heap.size+1+1+1,w.heap.size+1,rfl,by omega,by omega,t3,t1,t0,t4.drew⟩)
 case rest=>
  obtain⟨g,ps,rfl,hg1,hp1,HG,HP,HC,hbel⟩:=hcut;have c0:=HG.cell 0 _ rfl;simp only[yf,yd] at c0;obtain⟨L,hL⟩:∃L,L=wc.heap.size:=⟨_,rfl⟩;have hgl:g<L:=by rw[hL];exact HG.lt
  have hpl:ps<L:=by rw[hL];exact HP.lt
  have hcl:w.heap.size<L:=by rw[hL];exact HC.lt
  have hne1:g≠ps:=qbo HG HP (by decide);have hne2:w.heap.size≠ps:=qbo HC HP (by decide);go_wp2_with fail
  go_loopw [47] (fun i wr=>∃k:Nat,k<=n/\i=J k/\L<=wr.heap.size/\BlkAt wr g 97 #[sT ps n n,J c,sN]/\BlkAt wr w.heap.size 23 #[J n,J b,J c]/\Below w.heap.size w wr/\
   ∃cs:Array Value,BlkAt wr ps 102 cs/\cs.size=n/\∃bl lo hi,Made wr L k n b cs bl lo hi) (fun i _=>n - (intOf i).toNat)
  case atStart=>exact⟨0,by omega,rfl,by omega,HG,HC,hbel,_,HP,by simp,fun _=>0,fun _=>0,fun _=>0,⟨fun q hq=>absurd hq (Nat.not_lt_zero _),fun q hq=>absurd hq (Nat.not_lt_zero _),fun q hq=>absurd hq (Nat.not_lt_zero _),fun q r _ hq=>absurd hq (Nat.not_lt_zero _),fun q hq=>absurd hq (Nat.not_lt_zero _)⟩⟩
  case round=>
   clear HG HP HC hbel c0;obtain⟨k,hk,rfl,hLs,HG,HC,hbel,cs,HP,hcs,bl,lo,hi,hrows⟩:=hrel;by_cases hlt:k<n
   ·have hk0:(0:Int)<=(k:Int):=Int.natCast_nonneg _;have hk1':(k:Int)<(n:Int):=by omega
    have HGd:Hid (BlkAt wr g 97 _):=HG;have HCd:Hid (BlkAt wr w.heap.size 23 _):=HC;have HPd:Hid (BlkAt wr ps 102 cs):=HP;have HBl:Hid (Below w.heap.size w wr):=hbel;have HRd:Hid (Made wr L k n b cs bl lo hi):=hrows;have HS:Hid (∀w',Below L wr w'->w'.cell? (aT g 0)=some (sT ps n n)/\w'.cell? (aT w.heap.size 0)=some (J n)/\w'.cell? (aT w.heap.size 1)=some (J b)):=fun w' hw=>⟨(HG.below hw hgl).cell 0 _ rfl,(HC.below hw hcl).cell 0 _ rfl,(HC.below hw hcl).cell 1 _ rfl⟩;clear HG HC HP hbel hrows;go_upto_region 7 with fail
    refine Ends.begin (fun w'=>w'.cell? (aT g 0)=some (sT ps n n)/\w'.cell? (aT w.heap.size 0)=some (J n)/\w'.cell? (aT w.heap.size 1)=some (J b)) 12 (by kernel_rfl) (HS.out _ (yi _ _).drew) (fun hHeld=>?_);refine tk 0 ?_;refine tk 1 ?_;refine tk 2 ?_;refine tk 3 ?_;refine tk 4 ?_;refine tk 5 ?_;refine tk 6 ?_;refine tk 7 ?_;refine tk 8 ?_;refine tk 9 ?_;refine te 10 fun K hK=>?_;go_simp;refine(procNewC k n b _ hn (HTB.out _ HBl.out.drew).1 (HTB.out _ HBl.out.drew).2).mono ?_;rintro e w1 ⟨x,rfl,hx,hb1⟩;have hbS:Below wr.heap.size wr w1:=(yi _ _).drew.trans hb1;have hx':PC w1 (fun y=>wr.heap.size<=y/\y<w1.heap.size) x (qre k n b) (newSt n).kn (newSt n).ms (newSt n).evs []:=hx.wide fun y hy=>by simpa using hy
    go_wp2_with fail
    refine hK.out _ _ (fun _=>HS.out _ (hbS.mono hLs)) (fun _=>?_);clear hK K hHeld;have hHeld:=HS.out _ (hbS.mono hLs);try simp only[pU]
    obtain⟨u,hu⟩:∃u,cs[k]?=some u:=⟨_,yl (show k<cs.size by omega)⟩;have HP1:=HPd.out.below hbS (by omega);have q1:=HP1.cell k u hu;have q2:=HP1.frozen k;have HP1d:Hid (BlkAt w1 ps 102 cs):=HP1;clear HP1 hu;refine tk 11 ?_;refine te 12 fun K hK=>?_;go_simp;refine hK.out _ _ (fun h=>absurd rfl h) (fun _=>?_);clear hK K;try simp only[pU]
    refine Ends.done (by kernel_rfl) ?_ _;go_wp2_with fail
    go_roundw
    case rel=>
     have hsz:=hbS.size;have hOn:=(Only.refl ps w1).set k (Value.pointer (some ⟨x,0,none⟩));refine⟨k+1,by omega,by go_num,?_,?_,?_,?_,cs.setIfInBounds k _,HP1d.out.set k _,by simpa using hcs,_,_,_,HRd.out.next (by omega) hLs hpl (yr H10.out hp1) hbS hx' _ rfl⟩
     ·rw[hOn.size];omega
     ·exact(HGd.out.below hbS (by omega)).other hne1 _ _
     ·exact(HCd.out.below hbS (by omega)).other hne2 _ _
     ·exact(HBl.out.trans (hbS.mono HBl.out.size)).trans (hOn.below hp1)
    case measure=>simp[intOf];omega
   ·have hkn:k=n:=by omega
    have hkn1:¬(k:Int)<(n:Int):=by omega
    subst hkn;have HF:Hid (∃g',g'=g/\GX wr (fun x=>w.heap.size<=x) g' k b c (fun _=>newSt k) []):=by
     obtain⟨Fp,hFp,hga⟩:=hrows.ga hn hgl hpl ⟨yr H10.out hg1,yr H10.out hp1⟩ hne1 HG HP hcs;refine⟨g,rfl,ps,bl,Fp,_,_,hga,fun y hy=>?_⟩;rcases hy with h|h|h|⟨q,hq,h⟩
     ·omega
     ·omega
     ·exact h.elim
     ·have h1:=hrows.low q hq;have h2:=hFp q y hq h;omega
    have HBl:Hid (Below w.heap.size w wr):=hbel;clear HG HC HP hrows hbel;go_wp2
    go_ret2
    obtain⟨g',rfl,hx⟩:=HF.out;exact⟨g',rfl,hx,HBl.out⟩
end
section
open Go.RowKit
open Go.ChangeMaps (setBlock)
variable {w w':World}{F:Nat->Prop}{pl:List Par}
def AllStr(cur:Array Value):Prop:=∀u∈cur.toList,∃s,u=Value.string s
theorem qns(k:Nat):AllStr (Builtin.zeroCells (Value.string ⟨#[]⟩).cells k):=by
 intro u hu;simp only[Builtin.zeroCells,yV,yW] at hu;obtain⟨i, -,rfl⟩:=hu;refine⟨⟨#[]⟩,?_⟩;show (#[Value.string ⟨#[]⟩]:Array Value)[i % 1]! = _;rw[Nat.mod_one];rfl
section
variable {P:Program}(w:World)
theorem qka(t ty:TypeId)(base:Nat)(e:TypeId)(i:TypeInfo)(bytes:Nat)(ht:P.underlying t=some (.slice e))(hi:P.info? e=some i)(hz:i.zero=some (.string ⟨#[]⟩))(hsize:i.size=1)(hby:i.bytes=bytes)
 (v:Value) (n:Nat) (xs:List Value) (hown:w.ownsRow base e 1 v n xs) (ad:Addr) (c:Nat) (s:ByteArray) (hnews:∀j u,[Value.string s][j]?=some u->w.cell? (ad.add j)=some u) (h63:n+1<=maxLen) (hbytes:(n+1) * bytes<=140737488355328)
 (hold:∀g cur,v.ownBlock=some g->w.heap[g]?=some (.cells cur e (0,0))->AllStr cur) {v':Value}{w':World} (hr:(Builtin.append_ #[t,t] ty #[v,.slice (some ad) 1 c]).run P w=.ok v' w') :
 ∀g cur e' fz,v'.ownBlock=some g->w'.heap[g]?=some (.cells cur e' fz)->AllStr cur:=by
 subst hby;have h63':n+1<=9223372036854775807:=by
  simp only[maxLen] at h63;omega
 have hxs:∀u∈xs,∃s,u=Value.string s:=by
  rcases hown.2 with ⟨-,h0⟩|⟨g,cap,cur,h0, -,hg, -, -, -,htk⟩
  ·have h1:=hown.1;rw[h0] at h1;have:xs=[]:=yaz (by simpa using h1);rw[this];intro u hu;cases hu
  ·intro u hu;rw[<-htk] at hu;exact hold g cur (by rw[h0];rfl) hg u (List.mem_of_mem_take hu)
 have hgrown:∀(old:List Value) (k:Nat),(∀u∈old,∃s,u=Value.string s)->AllStr (old.toArray++[Value.string s].toArray++Builtin.zeroCells (Value.string ⟨#[]⟩).cells k):=fun old k ho u hu=>by
  simp only[Array.toList_append,yz] at hu;rcases hu with (hu|hu)|hu
  ·exact ho u hu
  ·simp at hu;exact⟨s,hu⟩
  ·exact qns k u hu
 intro g2 cur2 e2 fz2 hg2 hc2;rcases hown.2 with ⟨rfl,rfl⟩|⟨g,cap,cur,rfl, -,hg,hnc, -,hcs,htk⟩
 ·have h0:=run_append_nil (P:=P) w t ty e i _ ht hi hz ad 1 c [.string s] (by rw[hsize];rfl) hnews (by omega) (by omega) (by omega);rw[h0] at hr;injection hr with e1 e3;subst e1 e3;obtain rfl:w.heap.size=g2:=by simpa[Value.ownBlock] using hg2
  have hnew:=heap_alloc_new w.drew (.cells ([Value.string s].toArray++Builtin.zeroCells (Value.string ⟨#[]⟩).cells (grownCap w 1 0 e - 1)) e);rw[show w.drew.heap.size=w.heap.size from rfl,hc2] at hnew;simp only[yA,Obj.cells.injEq] at hnew;rw[hnew.1];have:=hgrown [] (grownCap w 1 0 e - 1) (by simp);simpa using this
 ·by_cases hroom:n+1<=cap
  ·have h0:=run_append_room (P:=P) w t ty e i ht hi g n cap cur hg ad 1 c [.string s] (by rw[hsize];rfl) hnews (by intro u hu;simp only[yu] at hu;subst hu;rfl) hroom (by rw[hsize,hcs];simp;omega);rw[h0] at hr;injection hr with e1 e3;subst e1 e3;obtain rfl:g=g2:=by simpa[Value.ownBlock] using hg2
   rw[setRow_heap w g cur _ e _ hg] at hc2;simp only[yA,Obj.cells.injEq] at hc2;rw[<-hc2.1];intro u hu;simp only[yz] at hu;have hcur:=hold g cur rfl hg;rcases hu with (hu|hu)|hu
   ·exact hcur u (List.mem_of_mem_take hu)
   ·simp only[yu] at hu;exact⟨s,hu⟩
   ·exact hcur u (List.mem_of_mem_drop hu)
  ·have h0:=run_append_grow (P:=P) w t ty e i _ ht hi hz ⟨g,0,none⟩ n cap xs (by rw[hsize];exact hown.1) (hown.cells (g:=g) rfl) ad 1 c [.string s] (by rw[hsize];rfl) hnews (by omega) (by omega) (growslice_fits (by omega) hbytes);rw[h0] at hr;injection hr with e1 e3;subst e1 e3;obtain rfl:w.heap.size=g2:=by simpa[Value.ownBlock] using hg2
   have hnew:=heap_alloc_new w.drew (.cells (xs.toArray++[Value.string s].toArray++Builtin.zeroCells (Value.string ⟨#[]⟩).cells (grownCap w (n+1) cap e - (n+1))) e);rw[show w.drew.heap.size=w.heap.size from rfl,hc2] at hnew;simp only[yA,Obj.cells.injEq] at hnew;rw[hnew.1];exact hgrown xs _ hxs
theorem qd9{ops:Array Oper}{o:Oper}{a:Act}{K:Act->World->Prop}{Q:Exit->Act->World->Prop}{E:Prop}(hgd:o.guard=none)(s0 x:Operand)(t:TypeId)(ho:o.op=.call { callee:=.builtin .append,args:=#[s0,x],argTypes:=#[t,t] })
 (base:Nat) (e:TypeId) (i:TypeInfo) (bytes:Nat) (ht:P.underlying t=some (.slice e)) (hi:P.info? e=some i) (hz:i.zero=some (.string ⟨#[]⟩)) (hsize:i.size=1) (hby:i.bytes=bytes)
 (v:Value) (n:Nat) (xs:List Value) (hs:a.eval s0=v) (hown:w.ownsRow base e 1 v n xs) (ad:Addr) (c:Nat) (s:ByteArray) (hx:a.eval x=.slice (some ad) 1 c) (hnews:∀j u,[Value.string s][j]?=some u->w.cell? (ad.add j)=some u) (h63:n+1<=maxLen) (hbytes:(n+1) * bytes<=140737488355328) (hbase:base<=w.heap.size) (H:Nat) (hH:w.heap.size=H)
 (hold:∀g cur,v.ownBlock=some g->w.heap[g]?=some (.cells cur e (0,0))->AllStr cur)
 (h:∀g cap w',w'.ownsRow base e 1 (sT g (n+1) cap) (n+1) (xs++[.string s])->w.grownBy w' v.ownBlock->(v.ownBlock=some g\/g=H)->g<w'.heap.size->(∀cur e' fz,w'.heap[g]?=some (.cells cur e' fz)->AllStr cur)->K (a.put o.dst (sT g (n+1) cap)) w') :
 if Region.wanted o (yielded ops a.tmps)=true then Oper.wp P o a w K Q else E:=by
 have hw:Region.wanted o (yielded ops a.tmps)=true:=by simp[Region.wanted,hgd]
 rw[if_pos hw];obtain⟨g,cap,w',hr,h2,h3,h4,h5⟩:=run_append_lies (P:=P) w t o.type base e i _ 1 bytes ht hi hz hsize hby rfl (by decide) v n xs hown ad 1 c [.string s] rfl hnews (by intro u hu;simp only[yu] at hu;subst hu;rfl) (by omega) h63 hbytes hbase H hH;unfold Oper.wp execOp;simp only[ho,resolve,invoke,builtin,Sem.run_bind,Sem.run_pure,Result.andThen_ok,yas,yN,yaK,hs,hx,hr];exact h g cap w' h2 h3 h4 h5 fun cur e' fz hc=>qka w t o.type base e i bytes ht hi hz hsize hby v n xs hown ad c s hnews h63 hbytes hold hr g cur e' fz rfl hc
end
structure Shr (w:World) (base lb n:Nat) (vs:Array Value) (c:Nat->List ByteArray):Prop where
 top:BlkAt w lb 151 vs
 size:vs.size=n
 lbb:base<=lb
 row:∀j v,j<n->vs[j]?=some v->w.ownsRow base 9 1 v (c j).length ((c j).map Value.string)
 dis:∀i j v u g,i<n->j<n->vs[i]?=some v->vs[j]?=some u->v.ownBlock=some g->u.ownBlock=some g->i=j
 flat:∀j v g cur e fz,j<n->vs[j]?=some v->v.ownBlock=some g->w.heap[g]?=some (.cells cur e fz)->AllStr cur
def addTo(c:Nat->List ByteArray)(j:Nat)(s:ByteArray):Nat->List ByteArray:=fun q=>if q=j then c j++[s] else c q
theorem qfm{base lb m:Nat}{v:Value}{xs:List Value}{vs:Array Value}(hr:w.ownsRow base 9 1 v m xs)(hb:BlkAt w lb 151 vs):some lb≠v.ownBlock:=by
 intro e;rcases hr.2 with ⟨h0, -⟩|⟨g,cap,cur,h0, -,hcur, -⟩
 ·rw[h0] at e;cases e
 ·rw[h0] at e;have e2:lb=g:=by simpa[Value.ownBlock] using e
  subst e2;have hb':w.heap[lb]?=some (.cells vs 151 (0,0)):=hb;rw[hb'] at hcur;simp at hcur
theorem Shr.below{base lb n:Nat}{vs:Array Value}{c:Nat->List ByteArray}(h:Shr w base lb n vs c)(hb:Below w.heap.size w w'):Shr w' base lb n vs c:=
 ⟨h.top.below hb h.top.lt,h.size,h.lbb,fun j v hj hv=>qd (h.row j v hj hv) fun g hg=>hb.block g ((h.row j v hj hv).lt g hg).2,h.dis,fun j v g cur e fz hj hv hg hc=>h.flat j v g cur e fz hj hv hg (by rw[<-hb.block g ((h.row j v hj hv).lt g hg).2];exact hc)⟩
theorem Shr.next{base lb n j g cap:Nat}{vs:Array Value}{c:Nat->List ByteArray}{v v':Value}{s:ByteArray}{w5:World}(h:Shr w base lb n vs c)(hj:j<n)(hv:vs[j]?=some v)(hgr:w.grownBy w5 v.ownBlock)(hor:v.ownBlock=some g\/w.heap.size<=g)(hv':v'=sT g ((c j).length+1) cap)(hown:w5.ownsRow base 9 1 v' ((c j).length+1) ((c j).map Value.string++[.string s]))(hfl:∀cur e fz,w5.heap[g]?=some (.cells cur e fz)->AllStr cur) :
 Shr (w5.setCell ⟨lb,j,none⟩ v') base lb n (vs.setIfInBounds j v') (addTo c j s):=by
 have hlb5:BlkAt w5 lb 151 vs:=(hgr.block lb h.top.lt (qfm (h.row j v hj hv) h.top)).trans h.top;have hown':∀g',v'.ownBlock=some g'->g'=g:=fun g' e=>by
  rw[hv'] at e;simpa[Value.ownBlock] using e.symm
 have hset:∀{x:Nat},x≠lb->(w5.setCell ⟨lb,j,none⟩ v').heap[x]?=w5.heap[x]?:=fun hx=>yT _ _ _ _ hx;have hcase:∀q u,q<n->(vs.setIfInBounds j v')[q]?=some u->(q=j/\u=v')\/(q≠j/\vs[q]?=some u):=fun q u hq hu=>by
  by_cases e:q=j
  ·subst e;rw[yR (by rw[h.size];exact hq)] at hu;exact .inl ⟨rfl,(Option.some.inj hu).symm⟩
  ·rw[yP (fun e2=>e e2.symm)] at hu;exact .inr ⟨e,hu⟩
 refine⟨hlb5.set j _,by simpa using h.size,h.lbb,fun q u hq hu=>?_,fun a b u u' g' ha hb hu hu' hg hg'=>?_,fun q u g' cur e fz hq hu hg' hc=>?_⟩
 ·rcases hcase q u hq hu with ⟨rfl,rfl⟩|⟨hne,hu⟩
  ·have e1:addTo c q s q=c q++[s]:=if_pos rfl;rw[e1,yC,y8];refine qd hown fun g' hg'=>hset fun e=>?_;exact qfm hown hlb5 (by rw[hg',e])
  ·rw[show addTo c j s q=c q from if_neg hne];refine qd (h.row q u hq hu) fun g' hg'=>?_;have hlt:=((h.row q u hq hu).lt g' hg').2;rw[hset fun e=>qfm (h.row q u hq hu) h.top (by rw[hg',e])];exact hgr.block g' hlt fun e=>hne (h.dis q j u v g' hq hj hu hv hg' e.symm)
 ·have hnew:∀q z,q<n->q≠j->vs[q]?=some z->z.ownBlock=some g->False:=fun q z hq hne hz hzg=>by
   rcases hor with ho|ho
   ·exact hne (h.dis q j z v g hq hj hz hv hzg ho)
   ·have:=((h.row q z hq hz).lt g hzg).2;omega
  rcases hcase a u ha hu with ⟨rfl,rfl⟩|⟨hne,hua⟩ <;> rcases hcase b u' hb hu' with ⟨rfl,rfl⟩|⟨hne',hub⟩
  ·rfl
  ·exact(hnew b u' hb hne' hub (by rw[hg',hown' g' hg])).elim
  ·exact(hnew a u ha hne hua (by rw[hg,hown' g' hg'])).elim
  ·exact h.dis a b u u' g' ha hb hua hub hg hg'
 ·rcases hcase q u hq hu with ⟨rfl,rfl⟩|⟨hne,hu⟩
  ·rw[hset fun e=>qfm hown hlb5 (by rw[hg',e]),hown' g' hg'] at hc;exact hfl cur e fz hc
  ·have hlt:=((h.row q u hq hu).lt g' hg').2;rw[hset fun e=>qfm (h.row q u hq hu) h.top (by rw[hg',e]),hgr.block g' hlt fun e=>hne (h.dis q j u v g' hq hj hu hv hg' e.symm)] at hc;exact h.flat q u g' cur e fz hq hu hg' hc
def forOf(pl:List Par)(j:Nat):List ByteArray:=(pl.filter fun x=>decide (x.1=(j:Int))).map (·.2)
theorem qlw(pl:List Par)(j:Nat)(s:ByteArray):forOf (pl++[((j:Int),s)])=addTo (forOf pl) j s:=by
 funext q;unfold forOf addTo;rw[ya6,y8];by_cases e:q=j
 ·subst e;simp
 ·rw[if_neg e,List.filter_cons_of_neg (by simp;omega)];simp
theorem infoStr:(prog.info? 9).map (fun i=>(i.zero,i.size,i.bytes))=some (some (.string ⟨#[]⟩),1,16):=by kernel_rfl
theorem infoStrs:(prog.info? 151).map (fun i=>(i.zero,i.size,i.bytes))=some (some (sN),1,24):=by kernel_rfl
theorem qpg(n:Nat)(hn:n<=6)(u:World):(Instr.makeSlice 100 (J n) (J n)).run prog u=.ok (sT u.heap.size n n) (u.alloc (.cells (Array.replicate n (Value.slice none 0 0)) 151)):=by
 obtain⟨i0,hi,hz0,hz1,hz2⟩:=info_parts infoStrs;have h:=run_make (P:=prog) u 100 151 i0 (sN) Tryz.underlying100 hi hz0 .i64 .i64 (n:Int) (n:Int) (by omega) (yaY _) (by rw[hz2];omega) (by omega);rw[yai] at h;have e2:madeCells (Value.slice none 0 0).cells (n * i0.size)=(Array.replicate n (Value.slice none 0 0)):=by
  rw[hz1,Nat.mul_one];apply Array.ext';rw[show (Value.slice none 0 0).cells=#[Value.slice none 0 0] from rfl,toList_madeCells_one];simp
 rw[e2] at h;exact h
theorem Shr.new(w:World)(n:Nat):Shr (w.alloc (.cells (Array.replicate n (Value.slice none 0 0)) 151)) w.heap.size w.heap.size n (Array.replicate n (Value.slice none 0 0)) (forOf []):=by
 have hall:∀{j:Nat}{v:Value},(Array.replicate n (Value.slice none 0 0))[j]?=some v->v=sN:=fun {j v} h=>by
  rw[Array.getElem?_replicate] at h;split at h
  ·exact(Option.some.inj h).symm
  ·cases h
 refine⟨BlkAt.new w w.heap.size rfl 151 _,by simp,yb _,fun j v hj hv=>?_,fun i j v u g hi hj hv hu hg hg'=>?_,fun j v g cur e fz hj hv hg hc=>?_⟩
 ·rw[hall hv];exact y9 _ _ _ _
 ·rw[hall hv] at hg;cases hg
 ·rw[hall hv] at hg;cases hg
theorem qnt(n:Nat)(hn:n<=6)(ao:Option Addr)(vc:Nat)(r:Row w F 111 2 (.slice ao pl.length vc) pl.length (parCells pl))(hl:pl.length<=1000000)(hto:∀x∈pl,∃j:Nat,j<n/\x.1=(j:Int)) :
 Calls prog 61 #[.slice ao pl.length vc,J n] w fun e w'=>e=.returned (sT w.heap.size n n)/\Below w.heap.size w w'/\∃vs,Shr w' w.heap.size w.heap.size n vs (forOf pl):=by
 obtain⟨i0,hi0,hz0,hz1,hz2⟩:=info_parts infoStr;have hmk:=qpg n hn;have H0:Hid (Shr (w.alloc (.cells (Array.replicate n (Value.slice none 0 0)) 151)) w.heap.size w.heap.size n (Array.replicate n (Value.slice none 0 0)) (forOf [])):=Shr.new w n;have HB0:Hid (Below w.heap.size w (w.alloc (.cells (Array.replicate n (Value.slice none 0 0)) 151))):=(yi _ _).alloc (yb _) _;have HPAR:Hid (∀(k:Nat) wr,k<pl.length->Below w.heap.size w wr->∃(g j:Nat) (s:ByteArray),ao=some ⟨g,0,none⟩/\j<n/\wr.cell? ⟨g,k * 2,none⟩=some (J j)/\wr.cell? ⟨g,k * 2+1,none⟩=some (.string s)/\pl.take (k+1)=pl.take k++[((j:Int),s)]):=fun k wr hk hb=>by
  obtain⟨g,cap,hv, -,hgl,c0,c1, -⟩:=qdp r (yh hk);obtain⟨j,hj,hx⟩:=hto _ (yaU hk);injection hv with h1 h2 h3;refine⟨g,j,pl[k].2,h1,hj,(hb.cell (p:=⟨g,k * 2,none⟩) hgl).trans (by rw[c0,hx]),(hb.cell (p:=⟨g,k * 2+1,none⟩) hgl).trans c1,?_⟩;rw[yaM,yh hk,<-hx];rfl
 clear r hto;go_enter Tryz.func61,Tryz.ntmps61
 go_wp2_with fail
 generalize w.alloc (.cells (Array.replicate n (Value.slice none 0 0)) 151)=w1 at H0 HB0 ⊢;go_loopw [12] (fun i wr=>∃k:Nat,k<=pl.length/\i=J k/\Below w.heap.size w wr/\∃vs,Shr wr w.heap.size w.heap.size n vs (forOf (pl.take k))) (fun i _=>pl.length - (intOf i).toNat)
 case atStart=>exact⟨0,by omega,rfl,HB0.out,_,H0.out⟩
 case round=>
  obtain⟨k,hk,rfl,hbel,vs,hsh⟩:=hrel;by_cases hlt:k<pl.length
  ·obtain⟨g,j,s,rfl,hj,c0,c1,htk⟩:=HPAR.out k wr hlt hbel;have hk0:(0:Int)<=(k:Int):=by omega
   have hlt1:(k:Int)<(pl.length:Int):=by omega
   have hj0:(0:Int)<=(j:Int):=by omega
   have hj1:(j:Int)<(n:Int):=by omega
   have HBL:Hid (Below w.heap.size w wr):=hbel;have HSH:Hid (Shr wr w.heap.size w.heap.size n vs (forOf (pl.take k))):=hsh;have HTK:Hid (pl.take (k+1)=pl.take k++[((j:Int),s)]):=htk;clear hbel hsh htk HPAR H0 HB0;go_upto_region 5 with fail
   have HB1:Hid (Below wr.heap.size wr (wr.alloc (.cells #[J j,.string s] 111))):=(yi _ _).alloc (yb _) _;have hX:=BlkAt.new wr wr.heap.size rfl 111 #[J j,.string s];have hs1:Hid ((wr.alloc (.cells #[J j,.string s] 111)).heap.size=wr.heap.size+1):=by simp[Hid]
   obtain⟨v,hv⟩:∃v,vs[j]?=some v:=⟨_,yl (show j<vs.size by have:=HSH.out.size;omega)⟩;have hrow:=HSH.out.row j v hj hv;obtain⟨vo,vcp,hvf⟩:=qp hrow;have hcl:(forOf (pl.take k) j).length<=1000000:=by
    unfold forOf;rw[yL];refine yr (yaR _ _) ?_;rw[yam];omega
   have HS:Hid (∀w',Below (wr.heap.size+1) (wr.alloc (.cells #[J j,.string s] 111)) w'->w'.cell? (aT w.heap.size j)=some v/\w'.cell? (aT wr.heap.size 0)=some (J j)/\w'.cell? (aT wr.heap.size 1)=some (.string s)):=fun w' hw=>⟨((HSH.out.below (HB1.out.trans (hw.mono (by omega)))).top).cell j v hv,(hX.below hw (by omega)).cell 0 _ rfl,(hX.below hw (by omega)).cell 1 _ rfl⟩;have HV:Hid (vs[j]?=some v):=hv;clear hX c0 c1;generalize hw2:wr.alloc (.cells #[J j,.string s] 111)=w2 at HB1 hs1 HS ⊢;clear hw2;generalize hlen:(forOf (pl.take k) j).length=m at hvf hcl hrow;have HROW:Hid (wr.ownsRow w.heap.size 9 1 v m ((forOf (pl.take k) j).map Value.string)):=hrow;have HLEN:Hid ((forOf (pl.take k) j).length=m):=hlen;clear hrow hlen hv;subst hvf;refine Ends.begin (fun w'=>w'.cell? (aT w.heap.size j)=some (.slice vo m vcp)/\w'.cell? (aT wr.heap.size 0)=some (J j)/\w'.cell? (aT wr.heap.size 1)=some (.string s)) 13 rfl (HS.out _ (yi _ _).drew) (fun hHeld=>?_);refine tk 0 ?_;refine tk 1 ?_;refine tk 2 ?_;refine tk 3 ?_;refine tk 4 ?_;refine tk 5 ?_;refine tk 6 ?_;refine tk 7 ?_;refine tk 8 ?_;refine tk 9 ?_;refine te 10 fun K hK=>?_;go_simp;have hBE:Hid (Below w2.heap.size w2 (w2.alloc (.cells #[.string s] 9)).drew):=((yi _ _).alloc (yb _) _).drew;refine hK.out _ _ (fun _=>HS.out _ (hBE.out.mono (by rw[hs1.out];omega))) (fun hHeld=>?_);clear hK K;try simp only[pU]
   have HE:Hid (BlkAt (w2.alloc (.cells #[.string s] 9)).drew w2.heap.size 9 #[.string s]):=(BlkAt.new w2 w2.heap.size rfl 9 _).drew;have hsE:Hid ((w2.alloc (.cells #[.string s] 9)).drew.heap.size=w2.heap.size+1):=by simp[Hid]
   generalize (w2.alloc (.cells #[.string s] 9)).drew=w4 at hBE HE hsE hHeld ⊢;have HB4:Hid (Below wr.heap.size wr w4):=HB1.out.trans (hBE.out.mono (by rw[hs1.out];omega));refine te 11 fun K hK=>?_;have SH4:=HSH.out.below HB4.out;refine qd9 w4 rfl (.tmp 23) (.tmp 26) 151 rfl w.heap.size 9 i0 16 Tryz.underlying151 hi0 hz0 hz1 hz2 (.slice vo m vcp) m ((forOf (pl.take k) j).map Value.string) rfl (qo HROW.out HB4.out) (aT w2.heap.size 0) 1 s rfl (yaB HE.out) (by simp[maxLen];omega) (by omega) (by have:=HBL.out.size;have:=HB4.out.size;omega) (w2.heap.size+1) hsE.out (fun g cur hg hc=>SH4.flat j _ g cur _ _ hj HV.out hg hc) ?_;intro g2 cap w5 hown hgr hor hlt5 hfl5;have hfin:=SH4.next (s:=s) hj HV.out hgr (g:=g2) (cap:=cap) (hor.imp id (fun e=>by have:=hsE.out;omega)) (by rw[HLEN.out]) (by rw[HLEN.out];exact hown) hfl5;rw[<-qlw,<-HTK.out] at hfin;have hrlt:∀x,(Value.slice vo m vcp).ownBlock=some x->w.heap.size<=x/\x<wr.heap.size:=fun x hx=>HROW.out.lt x hx;have hsz:=HBL.out.size;have hsz4:=HB4.out.size;have hb04:Below w.heap.size w w4:=HBL.out.trans (HB4.out.mono hsz);have nlb:some w.heap.size≠(Value.slice vo m vcp).ownBlock:=qfm HROW.out HSH.out.top;have hlb5:BlkAt w5 w.heap.size 151 vs:=(hgr.block _ SH4.top.lt nlb).trans SH4.top;have hSf:Hid (w5.cell? (aT w.heap.size j)=some (.slice vo m vcp)/\w5.cell? (aT wr.heap.size 0)=some (J j)/\w5.cell? (aT wr.heap.size 1)=some (.string s)):=by
    have h4:=HS.out _ (hBE.out.mono (by rw[hs1.out];omega));have hx4:wr.heap.size<w4.heap.size:=by have:=hBE.out.size;rw[hs1.out] at this;omega
    have nx:some wr.heap.size≠(Value.slice vo m vcp).ownBlock:=fun e=>by have:=hrlt _ e.symm;omega
    exact⟨(hgr.cell_far ⟨w.heap.size,j,none⟩ SH4.top.lt nlb).trans h4.1,(hgr.cell_far ⟨wr.heap.size,0,none⟩ hx4 nx).trans h4.2.1,(hgr.cell_far ⟨wr.heap.size,1,none⟩ hx4 nx).trans h4.2.2⟩
   have hb5:Below w.heap.size w w5:=hb04.trans ⟨hgr.os,hgr.tape,hgr.output,hgr.size,fun x hx=>hgr.block x (by omega) (fun e=>by have:=hrlt _ e.symm;omega)⟩;have HFIN:Hid (Below w.heap.size w (w5.setCell ⟨w.heap.size,j,none⟩ (sT g2 (m+1) cap))/\∃vs,Shr (w5.setCell ⟨w.heap.size,j,none⟩ (sT g2 (m+1) cap)) w.heap.size w.heap.size n vs (forOf (pl.take (k+1)))):=⟨hb5.trans (((Only.refl w.heap.size w5).set j _).below (yb _)),_,hfin⟩;have hfz:w5.frozen? (aT w.heap.size j)=false:=hlb5.frozen j;clear hown hgr hor hlt5 hfl5 hHeld HE hsE hBE HS nlb hlb5 hfin SH4 hb5 hb04 hrlt hsz hsz4 HB4 HROW HLEN HSH HBL HTK HB1 hs1;refine hK.out _ _ (fun _=>hSf.out) (fun hHeld=>?_);clear hK K;try simp only[pU]
   have hHeld:=hHeld (by decide);refine te 12 fun K hK=>?_;go_simp;refine hK.out _ _ (fun _=>hSf.out) (fun hHeld=>?_);clear hK K;try simp only[pU]
   have hHeld:=hHeld (by decide);refine te 13 fun K hK=>?_;go_simp;refine hK.out _ _ (fun h=>absurd rfl h) (fun _=>?_);clear hK K;try simp only[pU]
   refine Ends.done (by kernel_rfl) ?_ _;go_wp2_with fail
   go_roundw
   case rel=>exact⟨k+1,by omega,by go_num,HFIN.out⟩
   case measure=>simp[intOf];omega
  ·have hlt1:¬(k:Int)<(pl.length:Int):=by omega
   have hkl:k=pl.length:=by omega
   have HFIN:Hid (Below w.heap.size w wr/\∃vs,Shr wr w.heap.size w.heap.size n vs (forOf pl)):=⟨hbel,vs,by rw[hkl,yaT] at hsh;exact hsh⟩;clear hbel hsh HPAR H0 HB0;go_wp2_with fail
   go_ret;exact⟨rfl,HFIN.out⟩
end
end Go.Proofs.YtoklolfaemhfnaaGreatDoor
namespace Go.Proofs.YtoklolfaemhfnaaGreatDoor
section
open Go.RowKit
def pickN(c:Int)(n:Nat):Nat:=((if c<0 then -(c+1) else c) % (n:Int)).toNat
theorem qam(c:Int){n:Nat}(hn:1<=n):pickN c n<n:=by
 unfold pickN;have h1:=Int.emod_lt_of_pos (if c<0 then -(c+1) else c) (show (0:Int)<n by omega);have h2:=Int.emod_nonneg (if c<0 then -(c+1) else c) (show (n:Int)≠0 by omega);omega
theorem qb4(c:Int)(n:Nat)(w:World)(hc:-9223372036854775808<=c/\c<=9223372036854775807)(hn:1<=n)(hn2:n<=1000000):Calls prog 34 #[J c,J n] w fun e w'=>e=.returned (J (pickN c n))/\w'=w:=by
 have hn0:(n:Int)≠0:=by omega
 have hn1:¬(n:Int) = -1:=by omega
 unfold pickN;by_cases h:c<0
 ·have hw1:wrap64 (c+1)=c+1:=by unfold wrap64;omega
  have hw2:wrap64 (-(c+1)) = -(c+1):=by unfold wrap64;omega
  have hge:0<=-(c+1):=by omega
  have hres:Hid (-(c+1).tmod n=(((-(c+1)) % (n:Int)).toNat:Int)):=by
   unfold Hid;rw[<-Int.neg_tmod,Int.tmod_eq_emod_of_nonneg hge];have:=Int.emod_nonneg (-(c+1)) hn0;omega
  rw[if_pos h];go_enter Tryz.func34,Tryz.ntmps34
  go_wp2_with fail
  go_ret;refine⟨?_,rfl⟩;show Ending.returned (J (-(c+1).tmod n))=_;rw[hres.out]
 ·rw[if_neg h];go_enter Tryz.func34,Tryz.ntmps34
  go_wp2_with fail
  go_ret;refine⟨?_,rfl⟩;show Ending.returned (J (c % (n:Int)))=Ending.returned (J (max (c % (n:Int)) 0));rw[Int.max_eq_left (Int.emod_nonneg c hn0)]
def cutB(s:ByteArray)(n:Nat):ByteArray:=if n<s.size then s.extract 0 n else s
theorem qnu(s:ByteArray)(n:Nat):(cutB s n).size<=n:=by
 unfold cutB;split
 ·rw[ByteArray.size_extract];omega
 ·omega
theorem qrb(s:ByteArray)(n:Nat)(w:World):Calls prog 58 #[.string s,J n] w fun e w'=>e=.returned (.string (cutB s n))/\w'=w:=by
 unfold cutB;by_cases h:n<s.size
 ·have h1:(n:Int)<(s.size:Int):=by omega
  rw[if_pos h];go_enter Tryz.func58,Tryz.ntmps58
  go_wp2_with fail
  go_ret;exact⟨rfl,rfl⟩
 ·have h1:¬(n:Int)<(s.size:Int):=by omega
  rw[if_neg h];go_enter Tryz.func58,Tryz.ntmps58
  go_wp2_with fail
  go_ret;exact⟨rfl,rfl⟩
def evV(e:Ev):Value:=.agg #[J e.kind,J e.view,J e.src,J e.seq,J e.members,.string e.text]
def isMsg(e:Ev):Bool:=decide (e.kind=1\/e.kind=2)
theorem qgj(e:Ev)(w:World):Calls prog 36 #[evV e] w fun r w'=>r=.returned (.bool (isMsg e))/\Below w.heap.size w w':=by
 obtain⟨k,v,s,q,m,t⟩:=e;unfold evV isMsg;have c0:=(BlkAt.new w w.heap.size rfl 64 #[J k,J v,J s,J q,J m,.string t]).cell 0 _ rfl;simp only[yf,yd] at c0;by_cases h1:k=1
 ·go_enter Tryz.func36,Tryz.ntmps36
  go_wp2_with fail
  go_ret;exact⟨by simp[h1],(yi _ _).alloc (yb _) _⟩
 ·by_cases h2:k=2
  ·go_enter Tryz.func36,Tryz.ntmps36
   go_wp2_with fail
   go_ret;exact⟨by simp[h2],(yi _ _).alloc (yb _) _⟩
  ·go_enter Tryz.func36,Tryz.ntmps36
   go_wp2_with fail
   go_ret;exact⟨by simp[h1,h2],(yi _ _).alloc (yb _) _⟩
def sameMsg(a b:Ev):Bool:=decide (a.view=b.view/\a.src=b.src/\a.seq=b.seq)
theorem qf2(a b:Ev)(w:World):Calls prog 67 #[evV a,evV b] w fun r w'=>r=.returned (.bool (sameMsg a b))/\Below w.heap.size w w':=by
 obtain⟨ak,av,asn,aq,am,ax⟩:=a;obtain⟨bk,bv,bs,bq,bm,bx⟩:=b;unfold evV sameMsg;have hA:=(BlkAt.new w w.heap.size rfl 64 #[J ak,J av,J asn,J aq,J am,.string ax]).alloc (.cells #[J bk,J bv,J bs,J bq,J bm,.string bx] 64);have hB:=BlkAt.new (w.alloc (.cells #[J ak,J av,J asn,J aq,J am,.string ax] 64)) (w.heap.size+1) (by simp) 64 #[J bk,J bv,J bs,J bq,J bm,.string bx];have a1:=hA.cell 1 _ rfl;have a2:=hA.cell 2 _ rfl;have a3:=hA.cell 3 _ rfl;have b1:=hB.cell 1 _ rfl;have b2:=hB.cell 2 _ rfl;have b3:=hB.cell 3 _ rfl;simp only[yf,yd,ye] at a1 a2 a3 b1 b2 b3;clear hA hB;by_cases h1:av=bv
 ·by_cases h2:asn=bs
  ·by_cases h3:aq=bq
   ·go_enter Tryz.func67,Tryz.ntmps67
    go_wp2_with fail
    go_ret;exact⟨by simp[h1,h2,h3],((yi _ _).alloc (yb _) _).alloc (by simp) _⟩
   ·go_enter Tryz.func67,Tryz.ntmps67
    go_wp2_with fail
    go_ret;exact⟨by simp[h1,h2,h3],((yi _ _).alloc (yb _) _).alloc (by simp) _⟩
  ·go_enter Tryz.func67,Tryz.ntmps67
   go_wp2_with fail
   go_ret;exact⟨by simp[h1,h2],((yi _ _).alloc (yb _) _).alloc (by simp) _⟩
 ·go_enter Tryz.func67,Tryz.ntmps67
  go_wp2_with fail
  go_ret;exact⟨by simp[h1],((yi _ _).alloc (yb _) _).alloc (by simp) _⟩
theorem in_fn(n q:Nat)(w:World)(hq:q<n)(hn:n<=6):Calls prog 44 #[J (full n),J q] w fun e w'=>e=.returned (.bool true)/\w'=w:=by
 go_enter Tryz.func44,Tryz.ntmps44
 go_wp2
 go_loop [0,1] (fun a b=>∃k j:Nat,k<j/\j<=6/\a=J (full j)/\b=J k) (fun _ b=>(intOf b).toNat)
 case atStart=>exact⟨q,n,hq,hn,rfl,rfl⟩
 case round=>
  obtain⟨k,j,hk,hj,rfl,rfl⟩:=hrel;match j,hk,hj with
  | j + 1, hk, hj =>
    have hb:=qk7 (n:=j) (by omega);have hs:full (j+1)=2 * full j+1:=qmp j;match k,hk with
    | 0, _ =>
      have hm:(full (j+1)).tmod 2=1:=by rw[hs,Int.tmod_eq_emod_of_nonneg (by omega)];omega
      go_wp2
      go_ret;exact⟨rfl,rfl⟩
    | i + 1, hk =>
      have h1:(0:Int)<((i+1:Nat):Int):=by omega
      go_wp2
      go_round
      case rel=>
       exact⟨i,j,by omega,by omega,congrArg (Value.int .i64) (by omega),by go_num⟩
      case measure=>simp[intOf]
theorem qfn(ao bo:Option Addr)(n ac bc:Nat)(w:World)(hn:n<=6)(h:∀k,k<n->∃(g g':Nat) (x:Int),ao=some ⟨g,0,none⟩/\bo=some ⟨g',0,none⟩/\w.cell? (aT g k)=some (J x)/\w.cell? (aT g' k)=some (J x)) :
 Calls prog 63 #[.slice ao n ac,.slice bo n bc] w fun e w'=>e=.returned (.bool true)/\∃m,w'=w.drewN m:=by
 have HA:Hid (∀k,k<n->∃(g g':Nat) (x:Int),ao=some ⟨g,0,none⟩/\bo=some ⟨g',0,none⟩/\w.cell? (aT g k)=some (J x)/\w.cell? (aT g' k)=some (J x)):=h;clear h;go_enter Tryz.func63,Tryz.ntmps63
 go_wp2
 go_loopw [5] (fun i wr=>∃k:Nat,k<=n/\i=J k/\∃m,wr=w.drewN m) (fun i _=>n - (intOf i).toNat)
 case atStart=>exact⟨0,by omega,rfl,0,rfl⟩
 case round=>
  obtain⟨k,hk,rfl,m,rfl⟩:=hrel;by_cases hlt:k<n
  ·obtain⟨ab,bb,x,rfl,rfl,ca,cb⟩:=HA.out k hlt;have hk0:(0:Int)<=(k:Int):=Int.natCast_nonneg _;have hk1:(k:Int)<(n:Int):=by omega
   go_wp2
   go_quiet (fail)
   go_wp2
   go_roundw
   case rel=>exact⟨k+1,by omega,by go_num,_,rfl⟩
   case measure=>simp[intOf];omega
  ·go_wp2
   go_ret;exact⟨rfl,m,rfl⟩
theorem qgk:∀{l:List Ev}{k:Nat}{e:Ev},l[k]?=some e->∀i,i<6->(evCells l)[k * 6+i]?=e.cells[i]?
 |[],k,e,h=>by cases h
 | y :: l, 0, e, h => by
   simp only[yak,yA] at h;subst h;intro i hi;rw[show evCells (y::l)=y.cells++evCells l from rfl,y7 (by show _<6;omega)];congr 1;omega
 | y :: l, k + 1, e, h => by
   intro i hi;have:=qgk (l:=l) (k:=k) (e:=e) (by simpa using h) i hi;rw[show evCells (y::l)=y.cells++evCells l from rfl,yaw (by show 6<=_;omega),<-this];congr 1;show (k+1) * 6+i - 6=_;omega
theorem qiw{w:World}{base:Nat}{v:Value}{l:List Ev}(r:w.ownsRow base 64 6 v l.length (evCells l)){k:Nat}{e:Ev}(hk:l[k]?=some e):∃g cap,v=sT g l.length cap/\w.cell? ⟨g,k * 6,none⟩=some (J e.kind)/\w.cell? ⟨g,k * 6+1,none⟩=some (J e.view)/\w.cell? ⟨g,k * 6+2,none⟩=some (J e.src)/\w.cell? ⟨g,k * 6+3,none⟩=some (J e.seq)/\w.cell? ⟨g,k * 6+4,none⟩=some (J e.members)/\w.cell? ⟨g,k * 6+5,none⟩=some (.string e.text):=by
 have hkl:k<l.length:=(ym.1 hk).1;rcases r.2 with ⟨-,h0⟩|⟨g,cap,cur,h0, -⟩
 ·omega
 ·have hob:v.ownBlock=some g:=by rw[h0];rfl
  have hc:∀i u,i<6->e.cells[i]?=some u->w.cell? ⟨g,k * 6+i,none⟩=some u:=fun i u hi hu=>by
   have:=r.cells hob _ u ((qgk hk i hi).trans hu);rwa [add0] at this
  exact⟨g,cap,h0,hc 0 _ (by omega) rfl,hc 1 _ (by omega) rfl,hc 2 _ (by omega) rfl,hc 3 _ (by omega) rfl,hc 4 _ (by omega) rfl,hc 5 _ (by omega) rfl⟩
def findR(l:List Ev)(e:Ev):Int:=if l.findIdx (fun x=>isMsg x && sameMsg x e)<l.length then (l.findIdx fun x=>isMsg x && sameMsg x e) else -1
theorem qph{l:List Ev}{e:Ev}(h:∀x∈l,(isMsg x && sameMsg x e)=false):findR l e = -1:=by
 unfold findR;rw[if_neg];rw[List.findIdx_lt_length];rintro⟨x,hx,h2⟩;rw[h x hx] at h2;cases h2
theorem qnv{l:List Ev}{e x:Ev}{k:Nat}(hk:l[k]?=some x)(hx:(isMsg x && sameMsg x e)=true)(h:∀x∈l.take k,(isMsg x && sameMsg x e)=false):findR l e=k:=by
 obtain⟨h1,h2⟩:=ym.1 hk;have:l.findIdx (fun x=>isMsg x && sameMsg x e)=k:=by
  rw[List.findIdx_eq h1];refine⟨by rw[h2];exact hx,fun j hj=>h _ ?_⟩;rw[List.mem_take_iff_getElem];exact⟨j,by omega,rfl⟩
 unfold findR;rw[this,if_pos h1]
theorem qqw{base:Nat}(ao:Option Addr)(vc:Nat)(l:List Ev)(e:Ev)(w:World)(r:w.ownsRow base 64 6 (.slice ao l.length vc) l.length (evCells l))(hl:l.length<=100000):Calls prog 37 #[.slice ao l.length vc,evV e] w fun r w'=>r=.returned (J (findR l e))/\Below w.heap.size w w':=by
 obtain⟨ek,ev,es,eq,em,et⟩:=e;have HR:Hid (∀w',Below w.heap.size w w'->w'.ownsRow base 64 6 (.slice ao l.length vc) l.length (evCells l)):=fun w' hb=>qd r fun g hg=>hb.block g (r.lt g hg).2;have HB0:Hid (Below w.heap.size w (w.alloc (.cells #[J ek,J ev,J es,J eq,J em,.string et] 64))):=(yi _ _).alloc (yb _) _;have HX0:Hid (BlkAt (w.alloc (.cells #[J ek,J ev,J es,J eq,J em,.string et] 64)) w.heap.size 64 #[J ek,J ev,J es,J eq,J em,.string et]):=BlkAt.new w w.heap.size rfl 64 _;have HS0:Hid ((w.alloc (.cells #[J ek,J ev,J es,J eq,J em,.string et] 64)).heap.size=w.heap.size+1):=by simp[Hid]
 clear r;unfold evV;go_enter Tryz.func37,Tryz.ntmps37
 go_wp2_with fail
 generalize w.alloc (.cells #[J ek,J ev,J es,J eq,J em,.string et] 64)=w0 at HB0 HX0 HS0 ⊢;go_loopw [5] (fun i wr=>∃k:Nat,k<=l.length/\i=J k/\Below w0.heap.size w0 wr/\∀x∈l.take k,(isMsg x && sameMsg x ⟨ek,ev,es,eq,em,et⟩)=false) (fun i _=>l.length - (intOf i).toNat)
 case atStart=>exact⟨0,by omega,rfl,yi _ _,fun x hx=>by simp at hx⟩
 case round=>
  obtain⟨k,hk,rfl,hbel,hno⟩:=hrel;have HBL:Hid (Below w0.heap.size w0 wr):=hbel;have HNO:Hid (∀x∈l.take k,(isMsg x && sameMsg x ⟨ek,ev,es,eq,em,et⟩)=false):=hno;have hbw:Hid (Below w.heap.size w wr):=HB0.out.trans (hbel.mono HB0.out.size);clear hbel hno;by_cases hlt:k<l.length
  ·obtain⟨x,hx⟩:∃x,l[k]?=some x:=⟨_,yh hlt⟩;have HX:Hid (l[k]?=some x):=hx;have HC:Hid (∀w',Below wr.heap.size wr w'->∃g,ao=some ⟨g,0,none⟩/\w'.cell? ⟨g,k * 6,none⟩=some (J x.kind)/\w'.cell? ⟨g,k * 6+1,none⟩=some (J x.view)/\w'.cell? ⟨g,k * 6+2,none⟩=some (J x.src)/\w'.cell? ⟨g,k * 6+3,none⟩=some (J x.seq)/\w'.cell? ⟨g,k * 6+4,none⟩=some (J x.members)/\w'.cell? ⟨g,k * 6+5,none⟩=some (.string x.text)):=fun w' hw=>by
    obtain⟨g,cap,hv,hcs⟩:=qiw (HR.out w' (hbw.out.trans (hw.mono hbw.out.size))) hx;injection hv with h1;exact⟨g,h1,hcs⟩
   have HE:Hid (∀w',Below wr.heap.size wr w'->BlkAt w' w.heap.size 64 #[J ek,J ev,J es,J eq,J em,.string et]):=fun w' hw=>HX0.out.below (HBL.out.trans (hw.mono HBL.out.size)) (by rw[HS0.out];omega);have HM:Hid (∀w',Calls prog 36 #[.agg #[J x.kind,J x.view,J x.src,J x.seq,J x.members,.string x.text]] w' fun r w''=>r=.returned (.bool (isMsg x))/\Below w'.heap.size w' w''):=fun w'=>qgj x w';have HSM:Hid (∀w',Calls prog 67 #[.agg #[J x.kind,J x.view,J x.src,J x.seq,J x.members,.string x.text],.agg #[J ek,J ev,J es,J eq,J em,.string et]] w' fun r w''=>r=.returned (.bool (sameMsg x ⟨ek,ev,es,eq,em,et⟩))/\Below w'.heap.size w' w''):=fun w'=>qf2 x ⟨ek,ev,es,eq,em,et⟩ w';have hk0:(0:Int)<=(k:Int):=by omega
   have hlt1:(k:Int)<(l.length:Int):=by omega
   obtain⟨g,rfl,c0,c1,c2,c3,c4,c5⟩:=HC.out wr (yi _ _);clear hx HR;go_wp2_with fail
   refine(HM.out _).mono ?_;rintro _ w1 ⟨rfl,hb1⟩;have HB1:Hid (Below wr.heap.size wr w1):=hb1;clear hb1 c0 c1 c2 c3 c4 c5;have HS:Hid (∀w',Below wr.heap.size wr w'->w'.cell? ⟨g,k * 6,none⟩=some (J x.kind)/\w'.cell? ⟨g,k * 6+1,none⟩=some (J x.view)/\w'.cell? ⟨g,k * 6+2,none⟩=some (J x.src)/\w'.cell? ⟨g,k * 6+3,none⟩=some (J x.seq)/\w'.cell? ⟨g,k * 6+4,none⟩=some (J x.members)/\w'.cell? ⟨g,k * 6+5,none⟩=some (.string x.text)/\w'.cell? (aT w.heap.size 0)=some (J ek)/\w'.cell? (aT w.heap.size 1)=some (J ev)/\w'.cell? (aT w.heap.size 2)=some (J es)/\w'.cell? (aT w.heap.size 3)=some (J eq)/\w'.cell? (aT w.heap.size 4)=some (J em)/\w'.cell? (aT w.heap.size 5)=some (.string et)):=fun w' hw=>by
    obtain⟨g',hg',c0,c1,c2,c3,c4,c5⟩:=HC.out w' hw;obtain rfl:g=g':=by injection hg' with h1;injection h1
    have hE:=HE.out w' hw;exact⟨c0,c1,c2,c3,c4,c5,hE.cell 0 _ rfl,hE.cell 1 _ rfl,hE.cell 2 _ rfl,hE.cell 3 _ rfl,hE.cell 4 _ rfl,hE.cell 5 _ rfl⟩
   clear HC HM HE;go_upto_region 5 with fail
   refine Ends.begin (fun w'=>w'.cell? ⟨g,k * 6,none⟩=some (J x.kind)/\w'.cell? ⟨g,k * 6+1,none⟩=some (J x.view)/\w'.cell? ⟨g,k * 6+2,none⟩=some (J x.src)/\w'.cell? ⟨g,k * 6+3,none⟩=some (J x.seq)/\w'.cell? ⟨g,k * 6+4,none⟩=some (J x.members)/\w'.cell? ⟨g,k * 6+5,none⟩=some (.string x.text)/\w'.cell? (aT w.heap.size 0)=some (J ek)/\w'.cell? (aT w.heap.size 1)=some (J ev)/\w'.cell? (aT w.heap.size 2)=some (J es)/\w'.cell? (aT w.heap.size 3)=some (J eq)/\w'.cell? (aT w.heap.size 4)=some (J em)/\w'.cell? (aT w.heap.size 5)=some (.string et)) 6 rfl (HS.out _ HB1.out.drew) (fun hHeld=>?_);refine tk 0 ?_;refine tk 1 ?_;refine tk 2 ?_;refine tk 3 ?_;refine tk 4 ?_;refine te 5 fun K hK=>?_;go_simp;refine(HSM.out _).mono ?_;rintro _ w2 ⟨rfl,hb2⟩;have HB2:Hid (Below wr.heap.size wr w2):=(HB1.out.drew).trans (hb2.mono (by have:=HB1.out.size;simpa using this));clear hb2;go_wp2_with fail
   refine hK.out _ _ (fun _=>HS.out _ HB2.out) (fun hHeld=>?_);clear hK K;try simp only[pU]
   refine te 6 fun K hK=>?_;go_simp;refine hK.out _ _ (fun h=>absurd rfl h) (fun _=>?_);clear hK K hHeld;try simp only[pU]
   refine Ends.done (by kernel_rfl) ?_ _;have HB3:Hid (Below w0.heap.size w0 w2/\Below w.heap.size w w2):=⟨HBL.out.trans (HB2.out.mono HBL.out.size),hbw.out.trans (HB2.out.mono hbw.out.size)⟩;clear HS HSM;by_cases hm:(isMsg x && sameMsg x ⟨ek,ev,es,eq,em,et⟩)=true
   ·have HF:Hid (findR l ⟨ek,ev,es,eq,em,et⟩=k):=qnv HX.out hm HNO.out;obtain⟨h1,h2⟩:=Bool.and_eq_true_iff.1 hm;rw[h1,h2];go_wp2_with fail
    go_ret;exact⟨by rw[HF.out];rfl,HB3.out.2⟩
   ·have HN2:Hid (∀y∈l.take (k+1),(isMsg y && sameMsg y ⟨ek,ev,es,eq,em,et⟩)=false):=fun y hy=>by
     rw[yaM,HX.out] at hy;rcases yz.1 hy with hy|hy
     ·exact HNO.out y hy
     ·rw[yu.1 hy];simpa using hm
    generalize isMsg x=bm at hm ⊢;generalize sameMsg x ⟨ek,ev,es,eq,em,et⟩=bs at hm ⊢;cases bm
    ·go_wp2_with fail
     go_roundw
     case rel=>exact⟨k+1,by omega,by go_num,HB3.out.1,HN2.out⟩
     case measure=>simp[intOf];omega
    ·cases bs
     ·go_wp2_with fail
      go_roundw
      case rel=>exact⟨k+1,by omega,by go_num,HB3.out.1,HN2.out⟩
      case measure=>simp[intOf];omega
     ·exact absurd rfl hm
  ·have hkl:k=l.length:=by omega
   have hlt1:¬(k:Int)<(l.length:Int):=by omega
   have HF:Hid (findR l ⟨ek,ev,es,eq,em,et⟩ = -1):=qph (by have:=HNO.out;rwa [hkl,yaT] at this);go_wp2_with fail
   go_ret;exact⟨by rw[HF.out];rfl,hbw.out⟩
theorem qnw{base base':Nat}(ao bo:Option Addr)(ac bc:Nat)(a b:List Ev)(w:World)(ra:w.ownsRow base 64 6 (.slice ao a.length ac) a.length (evCells a))(rb:w.ownsRow base' 64 6 (.slice bo b.length bc) b.length (evCells b))(hal:a.length<=100000)(hbl:b.length<=100000)
 (h:∀x∈a,isMsg x=true->x.view=0->∃(j:Nat) (y:Ev),b[j]?=some y/\findR b x=j/\y.text=x.text) :
 Calls prog 30 #[.slice ao a.length ac,.slice bo b.length bc,J 0] w fun r w'=>r=.returned (.bool true)/\Below w.heap.size w w':=by
 have HRA:Hid (∀w',Below w.heap.size w w'->w'.ownsRow base 64 6 (.slice ao a.length ac) a.length (evCells a)):=fun w' hb=>qd ra fun g hg=>hb.block g (ra.lt g hg).2;have HRB:Hid (∀w',Below w.heap.size w w'->w'.ownsRow base' 64 6 (.slice bo b.length bc) b.length (evCells b)):=fun w' hb=>qd rb fun g hg=>hb.block g (rb.lt g hg).2;have HH:Hid (∀x∈a,isMsg x=true->x.view=0->∃(j:Nat) (y:Ev),b[j]?=some y/\findR b x=j/\y.text=x.text):=h;clear ra rb h;go_enter Tryz.func30,Tryz.ntmps30
 go_wp2_with fail
 go_loopw [7] (fun i wr=>∃k:Nat,k<=a.length/\i=J k/\Below w.heap.size w wr) (fun i _=>a.length - (intOf i).toNat)
 case atStart=>exact⟨0,by omega,rfl,yi _ _⟩
 case round=>
  obtain⟨k,hk,rfl,hbel⟩:=hrel;have HBL:Hid (Below w.heap.size w wr):=hbel;clear hbel;by_cases hlt:k<a.length
  ·obtain⟨x,hx⟩:∃x,a[k]?=some x:=⟨_,yh hlt⟩;have HX:Hid (x∈a):=yy hx;obtain⟨g,cap,hv, -⟩:=qiw (HRA.out wr HBL.out) hx;obtain rfl:ao=some ⟨g,0,none⟩:=by injection hv
   clear hv cap;have HC:Hid (∀w',Below wr.heap.size wr w'->w'.cell? ⟨g,k * 6,none⟩=some (J x.kind)/\w'.cell? ⟨g,k * 6+1,none⟩=some (J x.view)/\w'.cell? ⟨g,k * 6+2,none⟩=some (J x.src)/\w'.cell? ⟨g,k * 6+3,none⟩=some (J x.seq)/\w'.cell? ⟨g,k * 6+4,none⟩=some (J x.members)/\w'.cell? ⟨g,k * 6+5,none⟩=some (.string x.text)):=fun w' hw=>by
    obtain⟨g',cap,hv,hcs⟩:=qiw (HRA.out w' (HBL.out.trans (hw.mono HBL.out.size))) hx;have:g=g':=by injection hv with h1;injection h1 with h2;injection h2
    subst this;exact hcs
   have HM:Hid (Calls prog 36 #[.agg #[J x.kind,J x.view,J x.src,J x.seq,J x.members,.string x.text]] wr fun r w''=>r=.returned (.bool (isMsg x))/\Below wr.heap.size wr w''):=qgj x wr;have HF:Hid (∀w',Below wr.heap.size wr w'->Calls prog 37 #[.slice bo b.length bc,.agg #[J x.kind,J x.view,J x.src,J x.seq,J x.members,.string x.text]] w' fun r w''=>r=.returned (J (findR b x))/\Below w'.heap.size w' w''):=fun w' hw=>qqw bo bc b x w' (HRB.out w' (HBL.out.trans (hw.mono HBL.out.size))) hbl;have hk0:(0:Int)<=(k:Int):=by omega
   have hlt1:(k:Int)<(a.length:Int):=by omega
   obtain⟨c0,c1,c2,c3,c4,c5⟩:=HC.out wr (yi _ _);clear hx;go_wp2_with fail
   refine HM.out.mono ?_;rintro _ w1 ⟨rfl,hb1⟩;have HB1:Hid (Below wr.heap.size wr w1):=hb1;clear hb1 c0 c1 c2 c3 c4 c5 HM;obtain⟨c0,c1,c2,c3,c4,c5⟩:=HC.out w1 HB1.out;by_cases hm:isMsg x=true
   ·by_cases hv0:x.view=0
    ·obtain⟨j,y,hy,hfd,htx⟩:=HH.out x HX.out hm hv0;have hjl:j<b.length:=(ym.1 hy).1;have HY:Hid (b[j]?=some y):=hy;have HTX:Hid (y.text=x.text):=htx;have HF1:Hid (Calls prog 37 #[.slice bo b.length bc,.agg #[J x.kind,J x.view,J x.src,J x.seq,J x.members,.string x.text]] w1 fun r w''=>r=.returned (J j)/\Below w1.heap.size w1 w''):=by
      have:=HF.out w1 HB1.out;rwa [hfd] at this
     clear hy htx hfd HF;rw[hm];go_wp2_with fail
     refine(hv0▸HF1.out).mono ?_;rintro _ w2 ⟨rfl,hb2⟩;have HB2:Hid (Below wr.heap.size wr w2):=HB1.out.trans (hb2.mono HB1.out.size);obtain⟨g2,cap2,hv2, -, -, -, -, -,d5⟩:=qiw (HRB.out w2 (HBL.out.trans (HB2.out.mono HBL.out.size))) HY.out;obtain rfl:bo=some ⟨g2,0,none⟩:=by injection hv2
     rw[HTX.out] at d5;clear hb2 c0 c1 c2 c3 c4 c5 hv2 HF1;obtain⟨-, -, -, -, -,c5⟩:=HC.out w2 HB2.out;have hj0:(0:Int)<=(j:Int):=by omega
     have hj1:(j:Int)<(b.length:Int):=by omega
     have hj2:¬(j:Int)<0:=by omega
     clear HC;go_wp2_with fail
     go_quiet (fail)
     go_wp2_with fail
     go_roundw
     case rel=>exact⟨k+1,by omega,by go_num,below_drewN (HBL.out.trans (HB2.out.mono HBL.out.size)) _⟩
     case measure=>simp[intOf];omega
    ·rw[hm];clear HF HC;go_wp2_with fail
     go_roundw
     case rel=>exact⟨k+1,by omega,by go_num,HBL.out.trans (HB1.out.mono HBL.out.size)⟩
     case measure=>simp[intOf];omega
   ·have hm':isMsg x=false:=by simpa using hm
    rw[hm'];clear HF HC;go_wp2_with fail
    go_roundw
    case rel=>exact⟨k+1,by omega,by go_num,HBL.out.trans (HB1.out.mono HBL.out.size)⟩
    case measure=>simp[intOf];omega
  ·have hlt1:¬(k:Int)<(a.length:Int):=by omega
   go_wp2_with fail
   go_ret;exact⟨rfl,HBL.out⟩
def I64(c:Int):Prop:=-9223372036854775808<=c/\c<=9223372036854775807
theorem store3{w:World}{X:Nat}{T:TypeId}{x0 x1 x2:Value}(h:BlkAt w X T #[x0,x1,x2])(a0 a1 a2:Value) :
 BlkAt (((w.setCell ⟨X,0,none⟩ a0).setCell ⟨X,1,none⟩ a1).setCell ⟨X,2,none⟩ a2) X T #[a0,a1,a2]/\Only X w (((w.setCell ⟨X,0,none⟩ a0).setCell ⟨X,1,none⟩ a1).setCell ⟨X,2,none⟩ a2):=by
 have b0:BlkAt _ X T #[a0,x1,x2]:=h.set 0 a0;have b1:BlkAt _ X T #[a0,a1,x2]:=b0.set 1 a1;have b2:BlkAt _ X T #[a0,a1,a2]:=b1.set 2 a2;exact⟨b2,(((Only.refl X w).set 0 a0).set 1 a1).set 2 a2⟩
theorem qnx(a b c:Int)(w:World)(ha:I64 a)(hb:I64 b)(hc:I64 c):Calls prog 14 #[.agg #[J a,J b,J c]] w fun e w'=>e=.returned (.agg #[J ((1+pickN a 6:Nat):Int),J ((1+pickN b 8:Nat):Int),J ((1+pickN c 4000:Nat):Int)])/\Below w.heap.size w w':=by
 have HA:Hid (∀w',Calls prog 34 #[J a,J 6] w' fun e w''=>e=.returned (J (pickN a 6))/\w''=w'):=fun w'=>qb4 a 6 w' ha (by omega) (by omega);have HB:Hid (∀w',Calls prog 34 #[J b,J 8] w' fun e w''=>e=.returned (J (pickN b 8))/\w''=w'):=fun w'=>qb4 b 8 w' hb (by omega) (by omega);have HC:Hid (∀w',Calls prog 34 #[J c,J 4000] w' fun e w''=>e=.returned (J (pickN c 4000))/\w''=w'):=fun w'=>qb4 c 4000 w' hc (by omega) (by omega);have hp1:=qam a (n:=6) (by omega);have hp2:=qam b (n:=8) (by omega);have hp3:=qam c (n:=4000) (by omega);generalize pickN a 6=p at HA hp1 ⊢;generalize pickN b 8=q at HB hp2 ⊢;generalize pickN c 4000=r at HC hp3 ⊢;have w1':IntKind.i64.wrap (1+(p:Int))=((1+p:Nat):Int):=by simp[IntKind.wrap,IntKind.bits,IntKind.signed];omega
 have w2':IntKind.i64.wrap (1+(q:Int))=((1+q:Nat):Int):=by simp[IntKind.wrap,IntKind.bits,IntKind.signed];omega
 have w3':IntKind.i64.wrap (1+(r:Int))=((1+r:Nat):Int):=by simp[IntKind.wrap,IntKind.bits,IntKind.signed];omega
 have hX:=(BlkAt.new w w.heap.size rfl 23 #[J a,J b,J c]).alloc (.cells #[J 0,J 0,J 0] 23);have hY:=BlkAt.new (w.alloc (.cells #[J a,J b,J c] 23)) (w.heap.size+1) (by simp) 23 #[J 0,J 0,J 0];have HBL:Hid (Below w.heap.size w ((w.alloc (.cells #[J a,J b,J c] 23)).alloc (.cells #[J 0,J 0,J 0] 23))):=((yi _ _).alloc (yb _) _).alloc (by simp) _;have HS:Hid (∀m,(((w.alloc (.cells #[J a,J b,J c] 23)).alloc (.cells #[J 0,J 0,J 0] 23)).drewN m).cell? (aT w.heap.size 0)=some (J a)/\(((w.alloc (.cells #[J a,J b,J c] 23)).alloc (.cells #[J 0,J 0,J 0] 23)).drewN m).cell? (aT w.heap.size 1)=some (J b)/\(((w.alloc (.cells #[J a,J b,J c] 23)).alloc (.cells #[J 0,J 0,J 0] 23)).drewN m).cell? (aT w.heap.size 2)=some (J c)):=fun m=>by
  have h:=hX.below (below_drewN (yi (w.heap.size+2) _) m) (by omega);exact⟨h.cell 0 _ rfl,h.cell 1 _ rfl,h.cell 2 _ rfl⟩
 have HY:Hid (BlkAt ((w.alloc (.cells #[J a,J b,J c] 23)).alloc (.cells #[J 0,J 0,J 0] 23)) (w.heap.size+1) 23 #[J 0,J 0,J 0]):=hY;clear hX hY ha hb hc;go_enter Tryz.func14,Tryz.ntmps14
 go_upto_region 1 with fail
 generalize ((w.alloc (.cells #[J a,J b,J c] 23)).alloc (.cells #[J 0,J 0,J 0] 23))=w1 at HS HY HBL ⊢;have hS1:Hid (w1.drew.cell? (aT w.heap.size 0)=some (J a)/\w1.drew.cell? (aT w.heap.size 1)=some (J b)/\w1.drew.cell? (aT w.heap.size 2)=some (J c)):=HS.out 1;refine Ends.begin (fun w'=>w'.cell? (aT w.heap.size 0)=some (J a)/\w'.cell? (aT w.heap.size 1)=some (J b)/\w'.cell? (aT w.heap.size 2)=some (J c)) 13 rfl hS1.out (fun hHeld=>?_);refine tk 0 ?_;refine tk 1 ?_;refine tk 4 ?_;refine tk 5 ?_;refine tk 8 ?_;refine tk 9 ?_;refine te 2 fun K hK=>?_;go_simp;refine(HA.out _).mono ?_;rintro _ w2 ⟨rfl,rfl⟩;go_wp2_with fail
 refine hK.out _ _ (fun _=>hS1.out) (fun hHeld=>?_);clear hK K;try simp only[pU]
 refine tk 3 ?_;refine te 6 fun K hK=>?_;go_simp;refine(HB.out _).mono ?_;rintro _ w2 ⟨rfl,rfl⟩;go_wp2_with fail
 refine hK.out _ _ (fun _=>hS1.out) (fun hHeld=>?_);clear hK K;try simp only[pU]
 refine tk 7 ?_;refine te 10 fun K hK=>?_;go_simp;refine(HC.out _).mono ?_;rintro _ w2 ⟨rfl,rfl⟩;go_wp2_with fail
 refine hK.out _ _ (fun _=>hS1.out) (fun hHeld=>?_);clear hK K;try simp only[pU]
 refine tk 11 ?_;refine tk 12 ?_;have hY1:=HY.out;have q0:=hY1.cell 0 _ rfl;have q1:=hY1.cell 1 _ rfl;have q2:=hY1.cell 2 _ rfl;have f0:=hY1.frozen 0;have f1:=hY1.frozen 1;have f2:=hY1.frozen 2;simp only[yf,yd,ye] at q0 q1 q2;refine te 13 fun K hK=>?_;go_simp;refine hK.out _ _ (fun h=>absurd rfl h) (fun _=>?_);clear hK K q0 q1 q2 f0 f1 f2;try simp only[pU]
 refine Ends.done (by kernel_rfl) ?_ _;go_wp2_with fail
 obtain⟨hPf,hOn⟩:=store3 hY1 (J (1+(p:Int))) (J (1+(q:Int))) (J (1+(r:Int)));have hPd:=hPf.drew;have hBd:=(HBL.out.trans (hOn.below (Nat.le_succ _))).drew;refine qec (p:=bodyPost _ _ _ _ _) _ (fun wf hwf=>?_);rw[<-hwf.out] at hPd hBd;clear hwf hPf hOn;have q0:=hPd.cell 0 _ rfl;have q1:=hPd.cell 1 _ rfl;have q2:=hPd.cell 2 _ rfl;simp only[yf,yd,ye] at q0 q1 q2;exact bodyPost_ret (v:=.agg #[J (1+(p:Int)),J (1+(q:Int)),J (1+(r:Int))]) (by simp[results,Tryz.results14,go_sem,q0,q1,q2]) rfl ⟨by simp,hBd⟩
theorem qpi(a b c:Int)(w:World)(ha:I64 a)(hb:I64 b)(hc:I64 c):Calls prog 26 #[.agg #[J a,J b,J c]] w fun e w'=>e=.returned (.agg #[J ((1+pickN a 6:Nat):Int),J ((1+pickN b 8:Nat):Int),J 4000])/\Below w.heap.size w w':=by
 have HA:Hid (∀w',Calls prog 14 #[.agg #[J a,J b,J c]] w' fun e w''=>e=.returned (.agg #[J ((1+pickN a 6:Nat):Int),J ((1+pickN b 8:Nat):Int),J ((1+pickN c 4000:Nat):Int)])/\Below w'.heap.size w' w''):=fun w'=>qnx a b c w' ha hb hc;generalize (1+pickN a 6)=p at HA ⊢;generalize (1+pickN b 8)=q at HA ⊢;generalize (1+pickN c 4000)=r at HA;have hX:=(BlkAt.new w w.heap.size rfl 23 #[J a,J b,J c]).alloc (.cells #[J 0,J 0,J 0] 23);have hY:=BlkAt.new (w.alloc (.cells #[J a,J b,J c] 23)) (w.heap.size+1) (by simp) 23 #[J 0,J 0,J 0];have HBL:Hid (Below w.heap.size w ((w.alloc (.cells #[J a,J b,J c] 23)).alloc (.cells #[J 0,J 0,J 0] 23))):=((yi _ _).alloc (yb _) _).alloc (by simp) _;have HX:Hid (BlkAt ((w.alloc (.cells #[J a,J b,J c] 23)).alloc (.cells #[J 0,J 0,J 0] 23)) w.heap.size 23 #[J a,J b,J c]):=hX;have HY:Hid (BlkAt ((w.alloc (.cells #[J a,J b,J c] 23)).alloc (.cells #[J 0,J 0,J 0] 23)) (w.heap.size+1) 23 #[J 0,J 0,J 0]):=hY;have HS:Hid (((w.alloc (.cells #[J a,J b,J c] 23)).alloc (.cells #[J 0,J 0,J 0] 23)).heap.size=w.heap.size+2):=by simp[Hid]
 have c0:=hX.cell 0 _ rfl;have c1:=hX.cell 1 _ rfl;have c2:=hX.cell 2 _ rfl;simp only[yf,yd,ye] at c0 c1 c2;clear hX hY ha hb hc;go_enter Tryz.func26,Tryz.ntmps26
 go_wp2_with fail
 refine(HA.out _).mono ?_;rintro _ w2 ⟨rfl,hb2⟩;have hX2:=HX.out.below hb2 (by rw[HS.out];omega);have hY2:=HY.out.below hb2 (by rw[HS.out];omega);have HB2:Hid (Below w.heap.size w w2):=HBL.out.trans (hb2.mono HBL.out.size);obtain⟨hP1,hO1⟩:=store3 hX2 (J p) (J q) (J r);have HP2:Hid (BlkAt _ w.heap.size 23 #[J p,J q,J 4000]):=hP1.set 2 (J 4000);have HO2:Hid (Only w.heap.size w2 _):=hO1.set 2 (J 4000);have HY2:Hid (BlkAt w2 (w.heap.size+1) 23 #[J 0,J 0,J 0]):=hY2;have q0:=hX2.cell 0 _ rfl;have q1:=hX2.cell 1 _ rfl;have q2:=hX2.cell 2 _ rfl;have f0:=hX2.frozen 0;have f1:=hX2.frozen 1;have f2:=hX2.frozen 2;have y0:=hY2.cell 0 _ rfl;have y1:=hY2.cell 1 _ rfl;have y2:=hY2.cell 2 _ rfl;have g0:=hY2.frozen 0;have g1:=hY2.frozen 1;have g2:=hY2.frozen 2;simp only[yf,yd,ye] at q0 q1 q2 y0 y1 y2;clear hX2 hY2 hP1 hO1 c0 c1 c2 hb2 y0 y1 y2 g0 g1 g2;have hYA:=(HO2.out.block (w.heap.size+1) (by omega)).trans HY2.out;have HYA:Hid (BlkAt _ (w.heap.size+1) 23 #[J 0,J 0,J 0]):=hYA;have z0:=HP2.out.cell 0 _ rfl;have z1:=HP2.out.cell 1 _ rfl;have z2:=HP2.out.cell 2 _ rfl;have y0:=HYA.out.cell 0 _ rfl;have y1:=HYA.out.cell 1 _ rfl;have y2:=HYA.out.cell 2 _ rfl;have g0:=HYA.out.frozen 0;have g1:=HYA.out.frozen 1;have g2:=HYA.out.frozen 2;simp only[yf,yd,ye] at z0 z1 z2 y0 y1 y2;clear hYA;go_wp2_with fail
 clear z0 z1 z2;obtain⟨hPf,hOn⟩:=store3 HYA.out (J p) (J q) (J 4000);have hBd:=(HB2.out.trans (HO2.out.below (yb _))).trans (hOn.below (Nat.le_succ _));refine qec (p:=bodyPost _ _ _ _ _) _ (fun wf hwf=>?_);rw[<-hwf.out] at hPf hBd;clear hwf hOn q0 q1 q2 f0 f1 f2 y0 y1 y2 g0 g1 g2;have q0:=hPf.cell 0 _ rfl;have q1:=hPf.cell 1 _ rfl;have q2:=hPf.cell 2 _ rfl;simp only[yf,yd,ye] at q0 q1 q2;exact bodyPost_ret (v:=.agg #[J p,J q,J 4000]) (by simp[results,Tryz.results26,go_sem,q0,q1,q2]) rfl ⟨rfl,hBd⟩
end
section
open Go.RowKit
open Go.ChangeMaps (setBlock)
variable {w w':World}{F:Nat->Prop}{b:Nat}{h:Hd}{kn:List (List Int)}{l:Msgs}{evs:List Ev}{snt:List Par}{kb mb:Nat}{rbs:List Nat}{es:Array MapEntry}{clk:Nat}{ev sv:Value}
theorem qea(p:PA w F b h kn [] evs snt kb mb rbs es clk ev sv) :
 Calls prog 182 #[pT b 0] w fun e w'=>e=.returned (J 0)/\Below w.heap.size w w':=by
 have c15:=p.blk.cell 15 _ rfl;simp only[Hd.cells,yf,yd,ye] at c15;have hold:=p.mo.old;have hborn:=p.mo.born;have HES:Hid (es.size=0):=p.mo.length;have hmap:=p.map;clear p;go_enter Tryz.func182,Tryz.ntmps182
 go_wp2_with (at_range;refine qal _ rfl _ 156 186 179 rfl Tryz.underlying156 rfl hmap hold hborn ?_;intro hR0)
 go_frame
 go_loopw [3] (fun c wr=>c=J 0/\∃seen,Ranging wr mb w.heap.size es clk seen/\Below w.heap.size w wr) (fun _ wr=>toCome wr mb w.heap.size)
 case atStart=>exact⟨rfl,#[],hR0,(yi _ _).alloc (yb _) _⟩
 case round=>
  obtain⟨rfl,seen,hR,hB⟩:=hrel;have HB:Hid (Below w.heap.size w wr):=hB;clear hR0 hmap hold hborn hB;go_wp2_with (at_next;refine qaq _ rfl _ rfl mb w.heap.size rfl hR ?_ ?_)
  ·intro h0;go_wp2_with fail
   go_ret;exact⟨rfl,HB.out⟩
  ·intro e w1 he hse hR1 hG1 hs1 hen;have he':e∈es.toList:=by simpa using he
   have:es.toList.length=0:=HES.out;rw[List.length_eq_zero_iff.1 this] at he';cases he'
theorem qkb(hc:CalmHd h)(p:PA w F b h kn [] evs snt kb mb rbs es clk ev sv)(hx:(kn.getD h.num []).getD h.num 0<20)(hwin:1<=h.win)(t:ByteArray)(ht:t.size<=16) :
 Calls prog 136 #[pT b 0,.string t] w fun e w'=>e=.returned (J 0)/\Below w.heap.size w w':=by
 obtain⟨r,hr,hbr,hrl, -⟩:=p.row_at hc.num;have hnum:=hc.num;have HA:Hid (Calls prog 105 _ _ _):=qe4 b h _ _ _ _ w p.blk hc.crashed hc.out;have HR:Hid (∀w',Below w.heap.size w w'->Calls prog 119 #[pT b 0] w' fun e w''=>e=.returned (sT r h.n h.n)/\Below w'.heap.size w' w''/\w''.heap=w'.heap):=fun w' hw=>qar (p.below hw) hr;have HHO:Hid (∀w',Below w.heap.size w w'->Calls prog 182 #[pT b 0] w' fun e w''=>e=.returned (J 0)/\Below w'.heap.size w' w''):=fun w' hw=>qea (p.below hw);have HC:Hid (∀w',Below w.heap.size w w'->w'.cell? (aT b 0)=some (J h.num)/\w'.cell? (aT b 2)=some (J h.win)/\w'.cell? (aT b 5)=some (.bool false)/\w'.cell? (aT r h.num)=some (J ((kn.getD h.num []).getD h.num 0))):=fun w' hw=>by
  have c5:=(p.below hw).blk.cell 5 _ rfl;simp only[Hd.cells,yf,yd,ye,hc.blocked] at c5;exact⟨(p.below hw).blk.cell 0 _ rfl,(p.below hw).blk.cell 2 _ rfl,c5,(hbr.below hw hbr.lt).cell h.num _ (qcc (by omega))⟩
 have hp0:(0:Int)<=(h.num:Int):=by omega
 have hp1:(h.num:Int)<(h.n:Int):=by omega
 have ht1:¬(16:Int)<(t.size:Int):=by omega
 generalize (kn.getD h.num []).getD h.num 0=x at HC hx ⊢;clear p hbr hr hc;obtain⟨c0,c2,c5,cr⟩:=HC.out w (yi _ _);go_enter Tryz.func136,Tryz.ntmps136
 go_wp2_with fail
 refine HA.out.mono ?_;rintro e w0 ⟨rfl,rfl⟩;go_wp2_with fail
 refine wp_region_held_drew (S:=fun w'=>w'.cell? (aT b 0)=some (J h.num)/\w'.cell? (aT r h.num)=some (J x)) rfl ⟨c0,cr⟩ (fun hHeld=>?_);refine wk 0 ?_;refine wk 2 ?_;refine wk 3 ?_;refine wk 4 ?_;refine wk 5 ?_;refine we 1 fun K hK=>?_;go_simp;refine(HR.out _ (yi _ _).drew).mono ?_;rintro e w2 ⟨rfl,hb2, -⟩;have HB2:Hid (Below w0.heap.size w0 w2):=((yi _ _).drew).trans (hb2.mono (by simp));have hS2:Hid (w2.cell? (aT b 0)=some (J h.num)/\w2.cell? (aT r h.num)=some (J x)):=⟨(HC.out _ HB2.out).1,(HC.out _ HB2.out).2.2.2⟩;clear hb2;have hx':¬(20:Int)<=x:=by omega
 go_wp2_with fail
 refine hK.out _ _ hS2.out (fun hHeld=>?_);clear hK K;try simp only[pU]
 refine wk 6 ?_;refine wk 7 ?_;refine wk 8 ?_;refine wk 9 ?_;refine wpAnyH_done (by kernel_rfl) ?_ _;go_wp2_with fail
 refine wp_region_held_drew (S:=fun w'=>w'.cell? (aT b 2)=some (J h.win)) rfl (HC.out _ HB2.out.drew).2.1 (fun hHeld=>?_);refine wk 0 ?_;refine wk 2 ?_;refine wk 3 ?_;refine wk 4 ?_;refine wk 5 ?_;refine we 1 fun K hK=>?_;go_simp;refine(HHO.out _ HB2.out.drew).mono ?_;rintro e w3 ⟨rfl,hb3⟩;have HB3:Hid (Below w0.heap.size w0 w3):=HB2.out.drew.trans (hb3.mono HB2.out.size);clear hb3;have hy:¬(h.win:Int)<=0:=by omega
 go_wp2_with fail
 refine hK.out _ _ (HC.out _ HB3.out).2.1 (fun hHeld=>?_);clear hK K;try simp only[pU]
 refine wk 6 ?_;refine wk 7 ?_;refine wpAnyH_done (by kernel_rfl) ?_ _;go_wp2_with fail
 go_ret;exact⟨rfl,HB3.out⟩
theorem qpj(R9:World->Prop)(t:ByteArray)(hmc:Calls prog 136 #[pT b 0,.string t] w fun e w1=>(e=.returned (J 9)/\R9 w1)\/(e=.returned (J 10)/\R9 w1)\/(e=.returned (J 0)/\Below w.heap.size w w1/\(kn.getD h.num []).getD h.num 0<20))(hc:CalmHd h)(p:PA w F b h kn l evs snt kb mb rbs es clk ev sv)(hF:∀x,F x->x<w.heap.size)(o:Ok h kn (l.map Prod.fst) evs)(hs:snt.length<=100000)(ht:t.size<=16)(hno:∀x∈l,isK (ownMsg h kn t).sender (ownMsg h kn t).seq x.1=false)(hlow:∀q,q<h.n->Kn kn q h.num<=Kn kn h.num h.num) :
 Calls prog 97 #[pT b 0,.string t] w fun e w'=>((e=.returned (J 9)\/e=.returned (J 10))/\R9 w')\/(e=.returned (J 0)/\(kn.getD h.num []).getD h.num 0<20/\Chg F w w'/\PX w' (Plus F w) b h (castKn h kn) ((l.map Prod.fst++[ownMsg h kn t]).filter (notStable h.members (castKn h kn))) (evs++[⟨1,h.view,h.num,(kn.getD h.num []).getD h.num 0+1,0,t⟩]) (snt++((List.range h.n).filter (fun q=>decide (q≠h.num))).map fun q=>par (Mo.dataF h.n h.num q (mp (castKn h kn) ((l.map Prod.fst++[ownMsg h kn t]).filter (notStable h.members (castKn h kn))) (evs++[⟨1,h.view,h.num,(kn.getD h.num []).getD h.num 0+1,0,t⟩])) (ownMsg h kn t)))):=by
 obtain⟨r,hr,hbr,hrl, -⟩:=p.row_at hc.num;have hkl:=p.klen;have hnum:=hc.num;have hn6:=hc.n1;have hFX:∀x,w.heap.size<=x->¬F x:=fun x hx e=>by have:=hF x e;omega
 have hMl:(ownMsg h kn t).time.length=h.n:=by simp only[ownMsg,yaO];exact hrl
 have hosl:((List.range h.n).filter (fun q=>decide (q≠h.num))).length<=6:=by rw[qdo hnum];omega
 have hmos:∀k q,((List.range h.n).filter (fun q=>decide (q≠h.num)))[k]?=some q->q<h.n/\q≠h.num:=fun k q hq=>by
  have:=yy hq;rw[yM,yaa,decide_eq_true_eq] at this;exact this
 generalize hM:ownMsg h kn t=M at hno hMl ⊢;generalize hE:evs++[⟨1,h.view,h.num,(kn.getD h.num []).getD h.num 0+1,0,t⟩]=E;generalize hos:(List.range h.n).filter (fun q=>decide (q≠h.num))=os at hosl hmos;have hoM:(kn.getD h.num []).getD h.num 0<20->Ok h (castKn h kn) ((l.map Prod.fst++[M]).filter (notStable h.members (castKn h kn))) E:=fun hx=>by rw[<-hM,<-hE];exact qhj hc hkl hrl o hx t _ _
 have hfitM:(kn.getD h.num []).getD h.num 0<20->Codec.msgFits M=true:=fun hx=>by rw[<-hM];exact qee hc hrl o.row hx t ht
 have hunst:∀q,q<h.n->q≠h.num->notStable h.members (castKn h kn) M=true:=fun q hq hne=>by
  rw[hc.members,qaa hn6 (by simp[castKn,hkl])];refine⟨q,hq,?_⟩;have e1:Mo.sn M=h.num:=by rw[<-hM];rfl
  have e2:M.seq=(kn.getD h.num []).getD h.num 0+1:=by rw[<-hM];rfl
  rw[e1,e2];unfold castKn;rw[qif (by omega),if_neg hne];have:=hlow q hq;have e3:Kn kn h.num h.num=(kn.getD h.num []).getD h.num 0:=rfl;omega
 refine(qil b mb h.n t M os hosl w R9 (fun w1=>Below w.heap.size w w1/\(kn.getD h.num []).getD h.num 0<20)
  (fun w2 g cap=>(kn.getD h.num []).getD h.num 0<20/\Below w.heap.size w w2/\Row w2 (fun x=>w.heap.size<=x) 3 1 (sT g h.n cap) h.n (ints M.time))
  (fun X g cap w4=>(kn.getD h.num []).getD h.num 0<20/\∃(G:Nat->Prop) (ev':Value),(∀x,G x->x<w4.heap.size)/\¬G X/\X<w4.heap.size/\(∀x,G x->Plus F w x)/\w.heap.size<=g/\Chg F w w4/\PA w4 G b h (castKn h kn) l E snt kb mb rbs es clk ev' sv/\Row w4 G 3 1 (sT g h.n cap) M.time.length (ints M.time)/\BlkAt w4 X 179 #[J M.sender,J M.seq,sT g h.n cap,.string M.text])
  (fun X g cap w6=>(kn.getD h.num []).getD h.num 0<20/\∃(G:Nat->Prop) (ev':Value) (es':Array MapEntry),(∀x,G x->x<w6.heap.size)/\¬G X/\X<w6.heap.size/\(∀x,G x->Plus F w x)/\Chg F w w6/\PA w6 G b h (castKn h kn) (l++[(M,sT g h.n cap)]) E snt kb mb rbs es' (clk+1) ev' sv/\BlkAt w6 X 179 #[J M.sender,J M.seq,sT g h.n cap,.string M.text])
  (fun X g cap w7=>(kn.getD h.num []).getD h.num 0<20/\∃(G:Nat->Prop) (ev':Value) (es':Array MapEntry),(∀x,G x->x<w7.heap.size)/\¬G X/\X<w7.heap.size/\(∀x,G x->Plus F w x)/\Chg F w w7/\PA w7 G b h (castKn h kn) ((l++[(M,Value.slice (some ⟨g,0,none⟩) h.n cap)]).filter fun x=>notStable h.members (castKn h kn) x.1) E snt kb mb rbs es' (clk+1) ev' sv/\BlkAt w7 X 179 #[J M.sender,J M.seq,sT g h.n cap,.string M.text])
  (fun X g cap ao k w8=>(kn.getD h.num []).getD h.num 0<20/\∃(G:Nat->Prop) (w80:World) (ev':Value) (es':Array MapEntry) (sv':Value),¬G X/\X<w80.heap.size/\(∀x,G x->Plus F w x)/\Chg F w w80/\Chg G w80 w8/\(∀(k q:Nat),os[k]?=some q->∃g',ao=some ⟨g',0,none⟩/\¬G g'/\w80.cell? (aT g' k)=some (J q))/\PA w8 (Plus G w80) b h (castKn h kn) ((l++[(M,Value.slice (some ⟨g,0,none⟩) h.n cap)]).filter fun x=>notStable h.members (castKn h kn) x.1) E (snt++(os.take k).map fun q=>par (Mo.dataF h.n h.num q (mp (castKn h kn) ((l.map Prod.fst++[M]).filter (notStable h.members (castKn h kn))) E) M)) kb mb rbs es' (clk+1) ev' sv'/\BlkAt w80 X 179 #[J M.sender,J M.seq,sT g h.n cap,.string M.text])
  (fun w9=>(kn.getD h.num []).getD h.num 0<20/\Chg F w w9/\PX w9 (Plus F w) b h (castKn h kn) ((l.map Prod.fst++[M]).filter (notStable h.members (castKn h kn))) E (snt++os.map fun q=>par (Mo.dataF h.n h.num q (mp (castKn h kn) ((l.map Prod.fst++[M]).filter (notStable h.members (castKn h kn))) E) M)))
  ?_ ?_ ?_ ?_ ?_ ?_ ?_ ?_ ?_).mono ?_
 ·exact hmc
 ·rintro w1 ⟨hb,hx⟩;refine(qgf hc (p.below hb) o.row t (by omega)).mono ?_;rintro e w2 ⟨g,cap,rfl,hrow,hb2⟩;refine⟨g,cap,by rw[<-hM];rfl,hx,hb.trans (hb2.mono hb.size),?_⟩;rw[<-hM];exact⟨hrow.row,fun g' hg'=>by have h1:=hrow.foot g' hg';have h2:=hb.size;omega⟩
 ·rintro w2 g cap ⟨hx,hb2,hrow⟩;have hb3:Below w2.heap.size w2 (w2.alloc (.cells #[J M.sender,J M.seq,sT g h.n cap,.string M.text] 179)):=(yi _ _).alloc (yb _) _;have hb:Below w.heap.size w (w2.alloc (.cells #[J M.sender,J M.seq,sT g h.n cap,.string M.text] 179)):=hb2.trans (hb3.mono hb2.size);have hs3:(w2.alloc (.cells #[J M.sender,J M.seq,sT g h.n cap,.string M.text] 179)).heap.size=w2.heap.size+1:=by simp
  have hbx:=BlkAt.new w2 w2.heap.size rfl 179 #[J M.sender,J M.seq,sT g h.n cap,.string M.text];have hsM:M.sender=(h.num:Int):=by rw[<-hM];rfl
  refine(qg9 (p.below hb) M (some ⟨g,0,none⟩) h.n cap 1 h.num hnum hsM hnum (by have:=o.bound;omega)).mono ?_;rintro e w4 ⟨rfl,hch,ev',p4⟩;have hglt:g<w2.heap.size:=hrow.lt rfl;have hgw:w.heap.size<=g:=hrow.foot g rfl;have hs4:=hch.size;have hk:w4.heap[g]?=w2.heap[g]?:=(hch.block g (by omega) (hFX g hgw)).trans (hb3.block g hglt);have hkn:kn.set h.num ((kn.getD h.num []).set h.num M.seq)=castKn h kn:=by rw[<-hM];rfl
  have hEE:evs++[(⟨1,h.view,M.sender,M.seq,0,M.text⟩:Ev)]=E:=by rw[<-hE,<-hM];rfl
  rw[hkn,hEE] at p4;have hwX:w.heap.size<=w2.heap.size:=hb2.size;refine⟨rfl,hx,fun x=>((Plus F (w2.alloc (.cells #[J M.sender,J M.seq,sT g h.n cap,.string M.text] 179)) x/\x<w4.heap.size)\/x=g),ev',fun x hxx=>?_,fun hxx=>?_,by omega,fun x hxx=>?_,hgw,(Chg.of_below hb).trans (hch.mono fun x _ hx=>.inl hx),p4.clip.wide fun x hx=>.inl hx,?_,?_⟩
  ·rcases hxx with hxx|rfl
   ·exact hxx.2
   ·omega
  ·rcases hxx with ⟨hxx|hxx, -⟩|hxx
   ·exact hFX _ hwX hxx
   ·omega
   ·omega
  ·rcases hxx with ⟨hxx|hxx, -⟩|hxx
   ·exact .inl hxx
   ·exact .inr (by omega)
   ·exact .inr (by omega)
  ·rw[hMl];refine⟨qd hrow.row fun g' hg'=>?_,fun g' hg'=>.inr ?_⟩
   ·have:g'=g:=by simpa[Value.ownBlock] using hg'.symm
    subst this;exact hk
   ·simpa[Value.ownBlock] using hg'.symm
  ·exact(hch.block w2.heap.size (by omega) (hFX _ hwX)).trans hbx
 ·rintro X g cap w4 ⟨hx,G,ev',hG1,hGX,hXl,hG2,hgw,hch,p4,hrow4,hbx⟩ w5 hb5;have p5:=p4.below hb5;obtain⟨h1,h2,h3⟩:=p5.putMap M (sT g h.n cap) hno (hrow4.kept fun g' hg'=>hb5.block g' (hrow4.lt hg')) (fun g' hg' hr'=>by
   have e:g'=g:=by simpa[Value.ownBlock] using hg'.symm
   have:=hF g' (p.fr g' hr');omega)
  have hmX:X≠mb:=fun e=>hGX (e▸p4.fm);refine⟨p5.blk.cell 15 _ rfl,hbx.below hb5 hXl,_,h1,hx,G,ev',_,fun x hx=>yg (hG1 x hx) (yr hb5.size h2.size),hGX,yg hXl (yr hb5.size h2.size),hG2,?_,h3,?_⟩
  ·exact hch.trans ((Chg.of_below hb5).trans (Chg.of_grown h2 fun x hx=>by injection hx with hx;subst hx;exact .inl (hG2 mb p4.fm)))
  ·exact(h2.block X (yg hXl hb5.size) (fun e=>hmX (by injection e))).trans (hbx.below hb5 hXl)
 ·rintro X g cap w6 ⟨hx,G,ev',es',hG1,hGX,hXl,hG2,hch,p6,hbx⟩;have hfl:Fits h.n (l++[(M,Value.slice (some ⟨g,0,none⟩) h.n cap)]):=fun x hx=>by
   rcases yz.1 hx with hx|hx
   ·exact(o.lists rfl).fits x hx
   ·rw[yu] at hx;subst hx;exact⟨h.num,hnum,by rw[<-hM];rfl⟩
  refine(qc8 p6 hn6 hfl).mono ?_;rintro e w7 ⟨rfl,hg7,es7,p7⟩;have hmX:X≠mb:=fun e=>hGX (e▸p6.fm);refine⟨rfl,hx,G,ev',es7,fun x hx=>yg (hG1 x hx) hg7.size,hGX,yg hXl hg7.size,hG2,hch.trans (Chg.of_grown hg7 fun x hx=>by injection hx with hx;subst hx;exact hG2 mb p6.fm),p7,?_⟩;exact(hg7.block X hXl (fun e=>hmX (by injection e))).trans hbx
 ·rintro X g cap w7 ⟨hx,G,ev',es',hG1,hGX,hXl,hG2,hch,p7,hbx⟩;refine(qfc hc p7).mono ?_;rintro e w8 ⟨v,os',rfl,hown,hb8,hos'⟩;rw[hos] at hos';subst hos';obtain⟨ao,c,hv⟩:=qp hown;refine⟨ao,c,by rw[hv],hx,G,w8,ev',es',sv,hGX,yg hXl hb8.size,hG2,hch.trans (Chg.of_below hb8),Chg.refl _ _,fun k q hq=>?_,?_,hbx.below hb8 hXl⟩
  ·have hkl':k<os'.length:=(ym.1 hq).1;rcases hown.2 with ⟨h0,h1⟩|⟨g',cap',cur,h0, -⟩
   ·omega
   ·rw[hv] at h0;injection h0 with h0;have hob:v.ownBlock=some g':=by rw[hv,h0];rfl
    have hlt:=hown.lt g' hob;have hcl:=hown.cells hob k (J q) (by simp[qrp,hq]);rw[add0] at hcl;exact⟨g',h0,fun e=>by have:=hG1 g' e;omega,hcl⟩
  ·rw[List.take_zero,yaK,ya0];exact(p7.below hb8).wide Plus.sub
 ·rintro X g cap ao k w8 ⟨hx,G,w80,ev',es',sv',hGX,hXl,hG2,hch,hch8,hcell,p8,hbx⟩;refine⟨(hch8.block X hXl hGX).trans hbx,fun q hq=>?_⟩;obtain⟨g',h1,h2,h3⟩:=hcell k q hq;exact⟨g',h1,(yq (a:=(aT g' k)) (hch8.block g' (yI w80 _ h3) h2)).trans h3⟩
 ·rintro X g cap ao k w8 q ⟨hx,G,w80,ev',es',sv',hGX,hXl,hG2,hch,hch8,hcell,p8,hbx⟩ hq;have hqn:=hmos k q hq;have hmem:(M,Value.slice (some ⟨g,0,none⟩) h.n cap)∈(l++[(M,Value.slice (some ⟨g,0,none⟩) h.n cap)]).filter (fun x=>notStable h.members (castKn h kn) x.1):=yM.2 ⟨by simp,hunst q hqn.1 hqn.2⟩;have hsl:(snt++(os.take k).map fun q=>par (Mo.dataF h.n h.num q (mp (castKn h kn) ((l.map Prod.fst++[M]).filter (notStable h.members (castKn h kn))) E) M)).length<=1000000:=by
   rw[yC,yL,yam];omega
  have hmap:((l++[(M,Value.slice (some ⟨g,0,none⟩) h.n cap)]).filter (fun x=>notStable h.members (castKn h kn) x.1)).map Prod.fst=(l.map Prod.fst++[M]).filter (notStable h.members (castKn h kn)):=by
   rw[qu,y8];rfl
  refine(qcv hc p8.clip (fun x hx=>hx.2) (hoM hx).row hsl q hqn.1 M (hfitM hx) _ _ _ (p8.time_nums hmem)).mono ?_;rintro e w9 ⟨rfl,hch9,sv9,p9⟩;rw[hmap] at p9;refine⟨rfl,hx,G,w80,ev',es',sv9,hGX,hXl,hG2,hch,hch8.trans (hch9.mono fun x _ hx=>hx.1),hcell,?_,hbx⟩;rw[yaM,hq];simp only[Option.toList_some,y8,yN,yaK];rw[<-yav];refine p9.wide fun x hx=>?_;rcases hx with hx|hx
  ·exact hx.1
  ·exact .inr (by have:=hch8.size;omega)
 ·rintro X g cap ao w9 ⟨hx,G,w80,ev',es',sv',hGX,hXl,hG2,hch,hch9,hcell,p9,hbx⟩;have hmap:((l++[(M,Value.slice (some ⟨g,0,none⟩) h.n cap)]).filter (fun x=>notStable h.members (castKn h kn) x.1)).map Prod.fst=(l.map Prod.fst++[M]).filter (notStable h.members (castKn h kn)):=by
   rw[qu,y8];rfl
  refine⟨hx,hch.trans (hch9.mono fun x _ hx=>hG2 x hx),?_⟩;rw[yaT] at p9;have:=p9.px;rw[hmap] at this;refine this.wide fun x hx=>?_;rcases hx with hx|hx
  ·exact hG2 x hx
  ·exact .inr (by have:=hch.size;omega)
 ·rintro e w' (⟨h1,h2⟩|⟨rfl,hx,h1,h2⟩)
  ·exact .inl ⟨h1,h2⟩
  ·exact .inr ⟨rfl,hx,h1,h2⟩
end
section
open Go.RowKit
open Go.ChangeMaps (setBlock)
variable {w w':World}{gb pb n win lim:Nat}{bl:Nat->Nat}{Fp:Nat->Nat->Prop}{Fn:Nat->Prop}{st:Nat->Pst}{pl:List Par}{nv:Value}{FG:Nat->Prop}
theorem qny(hn:n<=6)(gx:GX w FG gb n win lim st pl){i:Nat}(hi:i<n)(hl:pl.length<=10000)(t:ByteArray)(ht:t.size<=16)(hms:(st i).ms=[])(hwin:1<=win)(hx0:((st i).kn.getD i []).getD i 0<20)(hlow:∀q,q<n->Kn (st i).kn q i<=Kn (st i).kn i i) :
 Calls prog 56 #[pT gb 0,J i,.string t] w fun e w'=>e=.returned (J 0)/\Mo.Cast n i (ownMsg (qre i n win) (st i).kn t) (st i).mp (qrr i n win t (st i)).mp/\GS w w' FG gb n win lim (setSt st i (qrr i n win t (st i))) (sentAll lim pl ((castOut i n win t (st i)).map par)):=by
 obtain⟨pb,bl,Fp,Fn,nv,g,hW⟩:=gx;have hc:=qbb (win:=win) hi hn;have HH:Hid (Calls prog 64 _ _ _):=qfj i _ _ g.c0 hi;have fin:∀{w1:World} (hch:Chg (Fp i) w w1) {s:Pst}{out:List Codec.Frame},PC w1 (Plus (Fp i) w) (bl i) (qre i n win) s.kn s.ms s.evs (out.map par)->(Ok (qre i n win) s.kn s.ms s.evs/\∀m∈s.ms,Codec.msgFits m=true)->out.length<=n->Calls prog 62 #[pT gb 0,.pointer (some ⟨bl i,0,none⟩)] w1 fun e w2=>e=.returned (.tuple #[])/\GS w w2 FG gb n win lim (setSt st i s) (sentAll lim pl (out.map par)):=fun {w1} hch {s} {out} hp hok hol=>by
  refine(g.carry hi hch hp hok (by rw[yL];omega)).mono ?_;rintro e w2 ⟨rfl,hch2,Fp',Fn',nv',g2,hW2⟩;exact⟨rfl,hch2.mono fun x _ h=>hW x h,pb,bl,Fp',Fn',nv',g2,fun x hx=>(hW2 x hx).imp (hW x) id⟩
 have HT:Hid (Calls prog 97 #[.pointer (some ⟨bl i,0,none⟩),.string t] w fun e w1=>∃c:Int,e=.returned (J c)/\(w1.cell? (aT gb 0)=some (sT pb n n)/\w1.cell? (aT pb i)=some (.pointer (some ⟨bl i,0,none⟩)))/\Calls prog 62 #[pT gb 0,.pointer (some ⟨bl i,0,none⟩)] w1 fun e w2=>e=.returned (.tuple #[])/\c=0/\Mo.Cast n i (ownMsg (qre i n win) (st i).kn t) (st i).mp (qrr i n win t (st i)).mp/\GS w w2 FG gb n win lim (setSt st i (qrr i n win t (st i))) (sentAll lim pl ((castOut i n win t (st i)).map par))):=by
  obtain⟨l,hlm,kb,mb,rbs,es,clk,ev,sv,p⟩:=g.proc i hi;have hok:=g.ok i hi;have hnk:(st i).kn.length=n:=p.klen;refine(lift (f:=97) rfl rfl (qab i n win) [.string t] (by simp) (Post:=fun v kn' ms' evs' snt'=>v=J 0/\CastTo (qre i n win) (st i).kn (st i).ms (st i).evs [] t kn' ms' evs' snt') (fun w0 F0 b0 p0 h0=>?_) (g.proc i hi) (g.cl i hi) (g.proc i hi).foot).mono ?_
  ·obtain⟨l,hlm,kb,mb,rbs,es,clk,ev,sv,p⟩:=p0;have hl0:l=[]:=List.map_eq_nil_iff.1 (hlm.trans hms);subst hl0;refine(qpj (fun _=>False) t ((qkb hc p hx0 hwin t ht).mono fun e w1 h=>.inr (.inr ⟨h.1,h.2,hx0⟩)) hc p h0 (hlm▸hok.1) (by simp) ht (fun x hx=>absurd hx yU) hlow).mono ?_;rintro e w1 (⟨he,hb⟩|⟨rfl,hx,hch,hp⟩)
   ·exact hb.elim
   ·rw[hlm] at hp;exact⟨_,rfl,fun ρ=>by simp,_,_,_,_,hp,rfl,rfl,rfl,rfl,rfl⟩
  ·rintro e w1 ⟨v,rfl,hch,kn',ms',evs',snt',hp,rfl,rfl,rfl,rfl,rfl⟩;have hx:=hx0;have hrl:((st i).kn.getD i []).length=n:=by
    obtain⟨r, -, -,hrl, -⟩:=p.row_at hi;exact hrl
   have hck:=qhj hc hnk hrl hok.1 hx t ⟨1,0,i,((st i).kn.getD i []).getD i 0+1,0,t⟩ (notStable (full n) (castKn (qre i n win) (st i).kn));have hof:=qee hc hrl hok.1.row hx t ht;have hmo:=qj1 (evs:=(st i).evs) (ms:=(st i).ms) hc hnk hrl hx t ht;refine⟨0,rfl,⟨g.c0' hi hch,g.ptr' hi hch⟩,(fin hch (s:=qrr i n win t (st i)) (out:=castOut i n win t (st i)) ?_ ⟨hck,fun m hm=>?_⟩ (qfl ..)).mono fun e w2 h=>⟨h.1,rfl,hmo,h.2⟩⟩
   ·rw[show (castOut i n win t (st i)).map par=[]++((List.range n).filter (fun q=>decide (q≠i))).map fun q=>par (Mo.dataF n i q (qrr i n win t (st i)).mp (ownMsg (qre i n win) (st i).kn t)) by rw[List.nil_append,castOut,yaD];rfl];exact hp
   ·rcases yz.1 (yM.1 hm).1 with h1|h1
    ·exact hok.2 m h1
    ·rw[yu] at h1;rw[h1];exact hof
 have c0:=g.c0;have p0:=g.ptr_cell hi;have hk0:(0:Int)<=(i:Int):=by omega
 have hk1:(i:Int)<(n:Int):=by omega
 clear g hW fin hc hms hwin hx0 hlow;go_enter Tryz.func56,Tryz.ntmps56
 go_wp2_with fail
 refine HH.out.mono ?_;rintro e w2 ⟨rfl,rfl⟩;go_wp2_with fail
 refine HT.out.mono ?_;rintro e w3 ⟨c,rfl,⟨d0,d1⟩,hcall⟩;have HC3:Hid (Calls prog 62 _ _ _):=hcall;clear hcall HT HH;go_wp2_with fail
 refine HC3.out.mono ?_;rintro e w4 ⟨rfl,hr⟩;have HR:Hid _:=hr;clear hr HC3;go_wp2_with fail
 go_ret;obtain⟨rfl,h⟩:=HR.out;exact⟨rfl,h⟩
end
section
open Go.RowKit
open Go.ChangeMaps (setBlock)
open Go.Cr (Tabs)
variable {w w':World}{gb pb n win lim:Nat}{bl:Nat->Nat}{Fp:Nat->Nat->Prop}{Fn:Nat->Prop}{st:Nat->Pst}{pl:List Par}{nv:Value}{FG:Nat->Prop}
theorem GX.clip(g:GX w FG gb n win lim st pl):GX w (fun x=>FG x/\x<w.heap.size) gb n win lim st pl:=by
 obtain⟨pb,bl,Fp,Fn,nv,g,hW⟩:=g;refine⟨pb,bl,Fp,Fn,nv,g,fun x hx=>⟨hW x hx,?_⟩⟩;rcases hx with h|h|h|⟨i,hi,h⟩
 ·rw[h];exact g.net.blk.lt
 ·rw[h];exact g.ptr.lt
 ·exact g.bn x h
 ·exact g.bp i x hi h
def firstB:ByteArray:=⟨#[102,105,114,115,116]⟩
def st0(n win:Nat):Nat->Pst:=setSt (fun _=>newSt n) 0 (qrr 0 n win firstB (newSt n))
def pl0(n win:Nat):List Par:=sentAll 4000 [] ((castOut 0 n win firstB (newSt n)).map par)
theorem qcn{n q s:Nat}:((newSt n).kn.getD q []).getD s 0=0:=by
 by_cases hq:q<n
 ·rw[qde hq,yj,yaW];split <;> rfl
 ·have:(newSt n).kn.getD q []=[]:=by
   rw[yj,List.getElem?_eq_none (by simp[newSt];omega)];rfl
  rw[this];rfl
theorem qnz(n win:Nat):(st0 n win 0).evs=[⟨1,0,0,1,0,firstB⟩]:=by
 rw[st0,setSt,if_pos rfl];simp only[qrr,qcn];rfl
def PlAt(w:World)(pp gb n win:Nat):Prop:=BlkAt w pp 44 #[pT gb 0,J n,J win,J 4000,.bool false,.bool false,.bool false,.bool false,.bool false,.bool false,.bool true]
theorem qn0(w:World)(hT:Tabs w)(h10:7<=w.heap.size)(hn:1<=n/\n<=6)(hwin:1<=win/\win<=8):Calls prog 25 #[.agg #[J n,J win,J 4000],.bool true] w fun e w'=>∃pp gb,e=.returned (pT pp 0)/\Below w.heap.size w w'/\PlAt w' pp gb n win/\w.heap.size<=pp/\GX w' (fun x=>w.heap.size<=x/\x<pp) gb n win 4000 (st0 n win) (pl0 n win):=by
 have HN:Hid (∀w',Below w.heap.size w w'->Calls prog 38 #[.agg #[J n,J win,J 4000]] w' fun e w''=>∃g,e=.returned (.tuple #[pT g 0,J 0])/\GX w'' (fun x=>w'.heap.size<=x) g n win 4000 (fun _=>newSt n) []/\Below w'.heap.size w' w''):=fun w' hb=>qqv n win 4000 w' ⟨hn,hwin,by omega,by omega⟩ (qae hT fun x hx=>hb.block x (by omega)) (yr h10 hb.size);have HC:Hid (∀w' g FG,GX w' FG g n win 4000 (fun _=>newSt n) []->Calls prog 56 #[pT g 0,J 0,.string ⟨#[102,105,114,115,116]⟩] w' fun e w''=>e=.returned (J 0)/\GS w' w'' FG g n win 4000 (st0 n win) (pl0 n win)):=fun w' g FG hg=>(qny hn.2 hg (i:=0) (by omega) (by simp) firstB (by decide) rfl hwin.1 (by rw[qcn];decide) (fun q _=>by show ((newSt n).kn.getD q []).getD 0 0<=((newSt n).kn.getD 0 []).getD 0 0;rw[qcn,qcn];exact yaY _)).mono fun e w'' h=>⟨h.1,h.2.2⟩;have HE:Hid (∀w' g FG,GX w' FG g n win 4000 (st0 n win) (pl0 n win)->Calls prog 35 #[pT g 0,J 0] w' fun e w''=>Below w'.heap.size w' w''/\∃gl cap,e=.returned (.tuple #[sT gl 1 cap,J 0])/\w''.cell? (aT gl 0)=some (J 1)/\w''.cell? (aT gl 3)=some (J 1)/\w''.cell? (aT gl 5)=some (.string ⟨#[102,105,114,115,116]⟩)):=fun w' g FG hg=>by
  refine(qgi hg (i:=0) (by omega) (by rw[qnz];decide)).mono ?_;rintro e w'' ⟨v,rfl,hr,hb⟩;rw[qnz] at hr;obtain⟨gl,cap,rfl,c0, -, -,c3, -,c5⟩:=qiw hr (k:=0) rfl;exact⟨hb,gl,cap,rfl,c0,c3,c5⟩
 have HX:Hid (BlkAt (w.alloc (.cells #[J n,J win,J 4000] 23)) w.heap.size 23 #[J n,J win,J 4000]):=BlkAt.new w w.heap.size rfl 23 _;have HB0:Hid (Below w.heap.size w (w.alloc (.cells #[J n,J win,J 4000] 23))):=(yi _ _).alloc (yb _) _;have hs0:Hid ((w.alloc (.cells #[J n,J win,J 4000] 23)).heap.size=w.heap.size+1):=by simp[Hid]
 clear hn hwin hT h10;go_enter Tryz.func25,Tryz.ntmps25
 have e0:=HX.out.cell 0 _ rfl;have e1:=HX.out.cell 1 _ rfl;have e2:=HX.out.cell 2 _ rfl;simp only[yf,yd,ye] at e0 e1 e2;go_wp2_with fail
 clear e0 e1 e2;generalize w.alloc (.cells #[J n,J win,J 4000] 23)=w0 at HX HB0 hs0 ⊢;refine(HN.out w0 HB0.out).mono ?_;rintro _ w1 ⟨g,rfl,hg,hb1⟩;have HG1:Hid (GX w1 (fun x=>w0.heap.size<=x/\x<w1.heap.size) g n win 4000 (fun _=>newSt n) []):=hg.clip;have HB1:Hid (Below w0.heap.size w0 w1):=hb1;have HC1:Hid (Calls prog 56 _ _ _):=HC.out w1 g _ HG1.out;clear hg hb1 HN HC;go_wp2_with fail
 refine HC1.out.mono ?_;rintro _ w2 ⟨rfl,hgs⟩;have HG2:Hid (GX w2 (Plus (fun x=>w0.heap.size<=x/\x<w1.heap.size) w1) g n win 4000 (st0 n win) (pl0 n win)):=hgs.2;have HB2:Hid (Below w0.heap.size w0 w2):=HB1.out.trans ⟨hgs.1.os,hgs.1.tape,hgs.1.output,hgs.1.size,fun k hk=>hgs.1.block k (yg hk HB1.out.size) (fun h=>by omega)⟩;have HE2:Hid (Calls prog 35 _ _ _):=HE.out w2 g _ HG2.out;clear hgs HE HC1;go_wp2_with fail
 refine HE2.out.mono ?_;rintro _ w3 ⟨hb3,gl,cap,rfl,c0,c3,c5⟩;have HG3:Hid (GX w3 (Plus (fun x=>w0.heap.size<=x/\x<w1.heap.size) w1) g n win 4000 (st0 n win) (pl0 n win)):=HG2.out.below hb3;have HB3:Hid (Below w0.heap.size w0 w3):=HB2.out.trans (hb3.mono HB2.out.size);have hX3:=HX.out.below HB3.out (by rw[hs0.out];omega);have e0:=hX3.cell 0 _ rfl;have e1:=hX3.cell 1 _ rfl;have e2:=hX3.cell 2 _ rfl;simp only[yf,yd,ye] at e0 e1 e2;clear hb3 HE2 hX3;go_wp2_with fail
 go_ret;have hsz:=HB3.out.size;have hsz0:=hs0.out;have hbA:Below w3.heap.size w3 (w3.alloc (.cells #[pT g 0,J n,J win,J 4000,.bool false,.bool false,.bool false,.bool false,.bool false,.bool false,.bool true] 44)):=(yi _ _).alloc (yb _) _;refine⟨w3.heap.size,g,rfl,((HB0.out.trans (HB3.out.mono (by omega))).trans (hbA.mono (by omega))),BlkAt.new w3 w3.heap.size rfl 44 _,by omega,(HG3.out.clip.below hbA).wide fun x hx=>?_⟩;rcases hx.1 with h1|h1
 ·exact⟨by omega,hx.2⟩
 ·have:=HB1.out.size;exact⟨by omega,hx.2⟩
end
section
open Go.RowKit
open Go.ChangeMaps (setBlock)
variable {w w':World}{gb n win lim:Nat}{st:Nat->Pst}{pl:List Par}{FG:Nat->Prop}
theorem infoTale:(prog.info? 37).map (fun i=>(i.zero,i.size,i.bytes))=some (some (.agg #[sN]),1,24):=by kernel_rfl
structure Told (w:World) (base:Nat) (st:Nat->Pst) (v:Value) (vs:List Value):Prop where
 row:w.ownsRow base 37 1 v vs.length vs
 each:∀(i:Nat) u,vs[i]?=some u->w.ownsRow base 64 6 u (st i).evs.length (evCells (st i).evs)
theorem Told.below{base:Nat}{v:Value}{vs:List Value}(t:Told w base st v vs)(hb:Below w.heap.size w w'):Told w' base st v vs:=⟨qd t.row fun g hg=>hb.block g (t.row.lt g hg).2,fun i u hu=>qd (t.each i u hu) fun g hg=>hb.block g ((t.each i u hu).lt g hg).2⟩
theorem qqx{base base' m m' s s':Nat}{e e':TypeId}{v v':Value}{xs xs':List Value}(h:w.ownsRow base e s v m xs)(h':w.ownsRow base' e' s' v' m' xs')(hne:e≠e'){g:Nat}(hg:v.ownBlock=some g):some g≠v'.ownBlock:=by
 intro e2;rcases h.2 with ⟨h0, -⟩|⟨g1,cap,cur,h0, -,hcur, -⟩
 ·rw[h0] at hg;cases hg
 ·rcases h'.2 with ⟨h1, -⟩|⟨g2,cap2,cur2,h1, -,hcur2, -⟩
  ·rw[h1] at e2;cases e2
  ·rw[h0] at hg;rw[h1] at e2;have e3:g1=g:=by simpa[Value.ownBlock] using hg
   have e4:g=g2:=by simpa[Value.ownBlock] using e2
   subst e3;subst e4;rw[hcur] at hcur2;simp at hcur2;exact hne hcur2.2
theorem qpk(pp:Nat)(hpl:PlAt w pp gb n win)(g:GX w FG gb n win lim st pl)(hn:n<=6)(hl:∀i,i<n->(st i).evs.length<=100000):Calls prog 15 #[pT pp 0] w fun e w'=>Below w.heap.size w w'/\∃v,e=.returned (.tuple #[v,.bool true])/\∃vs:List Value,vs.length=n/\Told w' w.heap.size st v vs:=by
 obtain⟨i0,hi0,hz0,hz1,hz2⟩:=info_parts infoTale;have HC:Hid (∀w',Below w.heap.size w w'->w'.cell? (aT pp 0)=some (pT gb 0)/\w'.cell? (aT pp 1)=some (J n)):=fun w' hb=>⟨(BlkAt.below hpl hb (BlkAt.lt hpl)).cell 0 _ rfl,(BlkAt.below hpl hb (BlkAt.lt hpl)).cell 1 _ rfl⟩;have HE:Hid (∀(k:Nat) w',k<n->Below w.heap.size w w'->Calls prog 35 #[pT gb 0,J k] w' fun e w''=>∃v,e=.returned (.tuple #[v,J 0])/\w''.ownsRow w'.heap.size 64 6 v (st k).evs.length (evCells (st k).evs)/\Below w'.heap.size w' w''):=fun k w' hk hb=>qgi (g.below hb) hk (hl k hk);have H0:Hid (Told w w.heap.size st (sN) []):=⟨y9 _ _ _ _,fun i u hu=>absurd hu (by simp)⟩;clear hpl g hl;go_enter Tryz.func15,Tryz.ntmps15
 go_wp2_with fail
 go_loopw [4,5] (fun o i wr=>∃(k:Nat) (vs:List Value),k<=n/\i=J k/\vs.length=k/\Below w.heap.size w wr/\Told wr w.heap.size st o vs) (fun _ i _=>n - (intOf i).toNat)
 case atStart=>exact⟨0,[],by omega,rfl,rfl,yi _ _,H0.out⟩
 case round=>
  obtain⟨k,vs,hk,rfl,hvl,hbel,ht⟩:=hrel;subst hvl;obtain⟨ao,vc,rfl⟩:=qp ht.row;generalize hkk:vs.length=k at ht hk ⊢;have HVL:Hid (vs.length=k):=hkk;clear hkk;have HBL:Hid (Below w.heap.size w wr):=hbel;have HT:Hid (Told wr w.heap.size st (.slice ao k vc) vs):=ht;obtain⟨c0,c1⟩:=HC.out wr hbel;clear hbel ht;by_cases hlt:k<n
  ·have hlt1:(k:Int)<(n:Int):=by omega
   have HE1:Hid (Calls prog 35 _ _ _):=HE.out k wr hlt HBL.out;go_wp2_with fail
   refine HE1.out.mono ?_;rintro _ w1 ⟨v,rfl,hrow,hb1⟩;have HR1:Hid (w1.ownsRow wr.heap.size 64 6 v (st k).evs.length (evCells (st k).evs)):=hrow;have HB1:Hid (Below wr.heap.size wr w1):=hb1;obtain⟨vo,vcp,hvf⟩:=qp hrow;have HT1:Hid (Told w1 w.heap.size st (.slice ao k vc) vs):=HT.out.below hb1;clear hrow hb1 HE1 c0 c1;generalize hm:(st k).evs.length=m at hvf HR1;have HM:Hid ((st k).evs.length=m):=hm;clear hm;subst hvf;have HX:Hid (BlkAt (w1.alloc (.cells #[.slice vo m vcp] 37)) w1.heap.size 37 #[.slice vo m vcp]):=BlkAt.new w1 w1.heap.size rfl 37 _;have HB2:Hid (Below w1.heap.size w1 (w1.alloc (.cells #[.slice vo m vcp] 37))):=(yi _ _).alloc (yb _) _;have HT2:Hid (Told (w1.alloc (.cells #[.slice vo m vcp] 37)) w.heap.size st (.slice ao k vc) vs):=HT1.out.below HB2.out;have HSZ:Hid (w.heap.size<=wr.heap.size/\wr.heap.size<=w1.heap.size):=⟨HBL.out.size,HB1.out.size⟩;have hr2:=HT2.out.row;rw[HVL.out] at hr2;have HR2:Hid ((w1.alloc (.cells #[.slice vo m vcp] 37)).ownsRow w.heap.size 37 1 (.slice ao k vc) k vs):=hr2;clear hr2;go_wp2_with (at_builtin;refine wpList_append_own_at _ rfl _ _ 31 rfl w.heap.size 37 i0 (.agg #[sN]) 1 24 Tryz.underlying31 hi0 hz0 hz1 hz2 rfl (by decide) _ _ _ rfl HR2.out ⟨w1.heap.size,0,none⟩ 1 1 [.slice vo m vcp] rfl ?c0 ?c1 ?c2 ?c3 ?c4 ?c5 ?_)
   case c0=>rfl
   case c1=>exact yaB HX.out
   case c2=>intro u hu;simp only[yu] at hu;subst hu;rfl
   case c3=>unfold maxLen;omega
   case c4=>omega
   case c5=>have:=HSZ.out;simp;omega
   intro v w2 ho hg _ _;have hA:=HR1.out;have hA2:(w1.alloc (.cells #[.slice vo m vcp] 37)).ownsRow w.heap.size 64 6 (.slice vo m vcp) m (evCells (st k).evs):=qd (qf hA HSZ.out.1) fun x hx=>HB2.out.block x (hA.lt x hx).2;have hkeep:∀{mm:Nat}{u:Value}{xs:List Value},(w1.alloc (.cells #[.slice vo m vcp] 37)).ownsRow w.heap.size 64 6 u mm xs->w2.ownsRow w.heap.size 64 6 u mm xs:=fun h=>qd h fun x hx=>hg.block x (h.lt x hx).2 (qqx h HR2.out (by decide) hx);have hb02:Below w.heap.size w w2:=((HBL.out.trans (HB1.out.mono HSZ.out.1)).trans (HB2.out.mono (yr HSZ.out.1 HSZ.out.2))).trans ⟨hg.os,hg.tape,hg.output,hg.size,fun x hx=>hg.block x (by have:=HSZ.out;simp;omega) (fun e=>by have:=(HR2.out.lt x e.symm).1;omega)⟩;have HFIN:Hid (Below w.heap.size w w2/\Told w2 w.heap.size st v (vs++[.slice vo m vcp])):=by
    refine⟨hb02,?_,fun i u hu=>?_⟩
    ·rw[yC,HVL.out];exact ho
    ·rcases ya3 i k with h|h
     ·rw[y7 (by rw[HVL.out];exact h)] at hu;exact hkeep (HT2.out.each i u hu)
     ·rw[yaw (by rw[HVL.out];exact h)] at hu;have hik:i=k:=by
       have:=(ym.1 hu).1;rw[HVL.out] at this;simp at this;omega
      subst hik;rw[HVL.out,Nat.sub_self] at hu;obtain rfl:Value.slice vo m vcp=u:=by simpa using hu
      rw[HM.out];exact hkeep hA2
   clear hA hA2 hkeep hb02 ho hg;go_wp2_with fail
   go_roundw
   case rel=>exact⟨k+1,vs++[.slice vo m vcp],by omega,by go_num,by rw[yC,HVL.out];rfl,HFIN.out⟩
   case measure=>simp[intOf];omega
  ·have hkn:k=n:=by omega
   have hlt1:¬(k:Int)<(n:Int):=by omega
   go_wp2_with fail
   go_ret2
   exact⟨HBL.out,_,rfl,vs,by have:=HVL.out;omega,by have:=HT.out;rwa [hkn] at this⟩
end
end Go.Proofs.YtoklolfaemhfnaaGreatDoor
