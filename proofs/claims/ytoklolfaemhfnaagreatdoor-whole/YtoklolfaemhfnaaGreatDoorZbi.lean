import Derived.Test.YtoklolfaemhfnaaGreatDoorZbh
set_option maxRecDepth 100000
set_option maxHeartbeats 8000000
open Go.Proofs.Tryz (prog)
namespace Go.Proofs.YtoklolfaemhfnaaGreatDoor
section
open Go.RowKit
open Go.ChangeMaps (setBlock)
variable {w w':World}{F:Nat->Prop}{b:Nat}{h:Hd}{kn:List (List Int)}{l:Msgs}{evs:List Ev}{snt:List Par}{kb mb:Nat}{rbs:List Nat}{es:Array MapEntry}{clk:Nat}{ev sv:Value}
inductive Built (n j:Nat) (p:Mo.MP) (ms:List Codec.Msg):List Nat->List Codec.Frame->Prop
 |nil:Built n j p ms [] []
 |snoc {qs:List Nat}{out:List Codec.Frame} (q:Nat) (xs:List Codec.Msg):Built n j p ms qs out->xs.Perm ms->Built n j p ms (qs++[q]) (out++(Mo.gossipF n j q p::qrh n j q p xs))
theorem Built.len{n j:Nat}{p:Mo.MP}{ms:List Codec.Msg}{qs:List Nat}{out:List Codec.Frame}(hb:Built n j p ms qs out):out.length<=qs.length * (1+ms.length):=by
 induction hb with
 |nil=>simp
 | snoc q xs _ hp ih =>
   have h1:=qfd n j q p xs;rw[hp.length_eq] at h1;simp only[yC,yx,yD,yS,Nat.add_mul,Nat.one_mul];omega
theorem Built.outs{n j:Nat}{kn:List (List Int)}{ms:List Codec.Msg}{evs:List Ev}{qs:List Nat}{out:List Codec.Frame}(hb:Built n j (mp kn ms evs) ms qs out):(∀q∈qs,Mo.gossipF n j q (mp kn ms evs)∈out)/\(∀q∈qs,∀m∈ms,(mp kn ms evs).kn q (Mo.sn m)<m.seq->Mo.dataF n j q (mp kn ms evs) m∈out)/\(∀f∈out,∃q∈qs,f=Mo.gossipF n j q (mp kn ms evs)\/∃m∈ms,f=Mo.dataF n j q (mp kn ms evs) m):=by
 induction hb with
 |nil=>exact⟨fun q hq=>(nomatch hq),fun q hq=>(nomatch hq),fun f hf=>(nomatch hf)⟩
 | @snoc qs out q xs _ hp ih =>
   refine⟨fun q' hq'=>?_,fun q' hq' m hm hlt=>?_,fun f hf=>?_⟩
   ·rcases yz.1 hq' with h1|h1
    ·exact yz.2 (.inl (ih.1 q' h1))
    ·rw[yu] at h1;subst h1;simp
   ·rcases yz.1 hq' with h1|h1
    ·exact yz.2 (.inl (ih.2.1 q' h1 m hm hlt))
    ·rw[yu] at h1;subst h1;refine yz.2 (.inr (y6 _ ?_));unfold qrh;exact yaC (yM.2 ⟨hp.mem_iff.2 hm,decide_eq_true hlt⟩)
   ·rcases yz.1 hf with h1|h1
    ·obtain⟨q',hq',h2⟩:=ih.2.2 f h1;exact⟨q',by simp[hq'],h2⟩
    ·rcases yF.1 h1 with h2|h2
     ·exact⟨q,by simp,.inl h2⟩
     ·unfold qrh at h2;obtain⟨m,hm,rfl⟩:=yW.1 h2;exact⟨q,by simp,.inr ⟨m,hp.mem_iff.1 (yM.1 hm).1,rfl⟩⟩
theorem qdo{n j:Nat}(hj:j<n):((List.range n).filter (fun q=>decide (q≠j))).length=n - 1:=by
 have h1:∀n,((List.range n).filter (fun q=>decide (q≠j))).length=if j<n then n - 1 else n:=by
  intro n;induction n with
  |zero=>simp
  | succ n ih =>
    rw[List.range_succ,ya6,yC,ih];by_cases e:n=j
    ·subst e;simp
    ·rw[List.filter_cons_of_pos (by simpa using e)];simp only[List.filter_nil,yx,yD];split <;> split <;> omega
 rw[h1,if_pos hj]
theorem Built.mo{n j:Nat}(hj:j<n){kn:List (List Int)}{ms:List Codec.Msg}{evs:List Ev}{out:List Codec.Frame}(hb:Built n j (mp kn ms evs) ms ((List.range n).filter (fun q=>decide (q≠j))) out):Mo.Outs n j (mp kn ms evs) out:=by
 obtain⟨h1,h2,h3⟩:=hb.outs;have hm:∀q,q∈(List.range n).filter (fun q=>decide (q≠j))↔q<n/\q≠j:=fun q=>by rw[yM,yaa,decide_eq_true_eq]
 refine⟨fun q hq hne=>h1 q ((hm q).2 ⟨hq,hne⟩),fun q hq hne m hmm hlt=>h2 q ((hm q).2 ⟨hq,hne⟩) m hmm hlt,fun f hf=>?_,?_⟩
 ·obtain⟨q,hq,h4⟩:=h3 f hf;exact⟨q,((hm q).1 hq).1,((hm q).1 hq).2,h4⟩
 ·have:=hb.len;rw[qdo hj] at this;exact this
theorem qqp(hc:CalmHd h)(p:PA w F b h kn l evs snt kb mb rbs es clk ev sv)(hF:∀x,F x->x<w.heap.size)(o:Ok h kn (l.map Prod.fst) evs)(hmf:∀x∈l,Codec.msgFits x.1=true)(hlen:l.length<=10000)(hs:snt.length<=100000) :
 Calls prog 71 #[pT b 0] w fun e w'=>e=.returned (J 0)/\Chg F w w'/\∃sv' out,PA w' (Plus F w) b h kn l evs (snt++out.map par) kb mb rbs es clk ev sv'/\Mo.Outs h.n h.num (mp kn (l.map Prod.fst) evs) out:=by
 have HA:Hid (Calls prog 105 _ _ _):=qe4 b h _ _ _ _ w p.blk hc.crashed hc.out;have HCV:Hid (Calls prog 109 _ _ _):=qhi hc p;have HOT:Hid (∀w',Below w.heap.size w w'->Calls prog 110 #[pT b 0] w' fun e w''=>∃v os,e=.returned v/\w''.ownsRow w'.heap.size 3 1 v os.length (qrp os)/\Below w'.heap.size w' w''/\os=(List.range h.n).filter (fun q=>decide (q≠h.num))):=fun w' hw=>qfc hc (p.below hw);have HP0:Hid (PA w F b h kn l evs snt kb mb rbs es clk ev sv):=p;have HMF:Hid (∀x∈l,Codec.msgFits x.1=true):=hmf;have HO:Hid (Ok h kn (l.map Prod.fst) evs):=o;have HF:Hid (∀x,F x->x<w.heap.size):=hF;have HC:Hid (CalmHd h):=hc;have hnum:=hc.num;have hn6:=hc.n1;clear p hmf o hF hc;go_enter Tryz.func71,Tryz.ntmps71
 go_wp2_with fail
 refine HA.out.mono ?_;rintro e w0 ⟨rfl,rfl⟩;go_wp2_with fail
 refine HCV.out.mono ?_;rintro e w2 ⟨rfl,hb2⟩;have HB2:Hid (Below w0.heap.size w0 w2):=hb2;clear hb2 HA HCV;go_wp2_with fail
 refine(HOT.out _ HB2.out).mono ?_;rintro e w1 ⟨v,os,rfl,hown,hb1,hos⟩;obtain⟨ao,vc,hv⟩:=qp hown;have HB1:Hid (Below w0.heap.size w0 w1):=HB2.out.trans (hb1.mono HB2.out.size);have hosl:Hid (os.length<=6):=by
  rw[Hid,hos];have:=yaR (fun q=>decide (q≠h.num)) (List.range h.n);rw[List.length_range] at this;omega
 have HOQ:Hid (∀k q,os[k]?=some q->q<h.n/\q≠h.num):=fun k q hq=>by
  have:=yy hq;rw[hos,yM,yaa,decide_eq_true_eq] at this;exact this
 have HOS:Hid (os=(List.range h.n).filter (fun q=>decide (q≠h.num))):=hos;have HCELL:Hid (∀wr (k q:Nat),Chg F w1 wr->os[k]?=some q->∃g,ao=some ⟨g,0,none⟩/\wr.cell? (aT g k)=some (J q)):=fun wr k q hch hq=>by
  have hkl:k<os.length:=(ym.1 hq).1;rcases hown.2 with ⟨h0,h1⟩|⟨g,cap,cur,h0, -⟩
  ·omega
  ·rw[hv] at h0;injection h0 with h0;have hob:v.ownBlock=some g:=by rw[hv,h0];rfl
   have hlt:=hown.lt g hob;have hcl:=hown.cells hob k (J q) (by simp[qrp,hq]);have hadd:(⟨g,0,none⟩:Addr).add k=(aT g k):=by unfold Addr.add;split <;> simp_all
   rw[hadd] at hcl;refine⟨g,h0,(yq (a:=(aT g k)) (hch.block g hlt.2 (fun e=>?_))).trans hcl⟩;have h1:=HF.out g e;have h2:=HB2.out.size;omega
 have P0:Hid (∃sv' out,PA w1 (Plus F w1) b h kn l evs (snt++out.map par) kb mb rbs es clk ev sv'/\Built h.n h.num (mp kn (l.map Prod.fst) evs) (l.map Prod.fst) (os.take 0) out):=⟨sv,[],by
  have:=(HP0.out.below HB1.out).wide (F':=Plus F w1) Plus.sub;simpa using this,by rw[List.take_zero];exact .nil⟩
 have HBND:Hid (∀(k:Nat) out,Built h.n h.num (mp kn (l.map Prod.fst) evs) (l.map Prod.fst) (os.take k) out->(snt++out.map par).length+1+l.length<=1000000):=fun k out hb=>by
  have h1:=hb.len;rw[yL] at h1;have h2:(os.take k).length<=6:=yr (by rw[yam];omega) hosl.out;have h3:(os.take k).length * (1+l.length)<=6 * (1+l.length):=Nat.mul_le_mul_right _ h2;rw[yC,yL];omega
 have HSTEP:Hid (∀(k:Nat) wr sv' out (q:Nat),os[k]?=some q->Chg F w1 wr->PA wr (Plus F w1) b h kn l evs (snt++out.map par) kb mb rbs es clk ev sv'->Built h.n h.num (mp kn (l.map Prod.fst) evs) (l.map Prod.fst) (os.take k) out->Calls prog 111 #[pT b 0,J q] wr fun e w3=>e=.returned (.tuple #[])/\w3.cell? (aT b 5)=some (.bool false)/\Calls prog 112 #[pT b 0,J q] w3 fun e w4=>e=.returned (.tuple #[])/\Chg F w1 w4/\∃sv'' out',PA w4 (Plus F w1) b h kn l evs (snt++out'.map par) kb mb rbs es clk ev sv''/\Built h.n h.num (mp kn (l.map Prod.fst) evs) (l.map Prod.fst) (os.take (k+1)) out'):=fun k wr sv' out q hq hch hp hbt=>by
  have hb:=HBND.out k out hbt;refine(qna HC.out hp HO.out.row (by omega) q (HOQ.out k q hq).1).mono ?_;rintro e w3 ⟨rfl,hch3,sv3,p3⟩;have c5:=p3.blk.cell 5 _ rfl;simp only[Hd.cells,yf,yd,ye,HC.out.blocked] at c5;refine⟨rfl,c5,?_⟩;have hw1r:w1.heap.size<=wr.heap.size:=hch.size;refine(qf1 HC.out (p3.clip) (fun y hy=>hy.2) (HO.out.lists rfl) HMF.out HO.out.row (by omega) ?_ q (HOQ.out k q hq).1).mono ?_
  ·rw[yC];simp only[yx,yD];omega
  ·rintro e w4 ⟨rfl,hch4,sv4,xs,hxp,p4⟩;refine⟨rfl,hch.trans (hch3.trans (hch4.mono fun y hy hyF=>?_)),sv4,out++(Mo.gossipF h.n h.num q (mp kn (l.map Prod.fst) evs)::qrh h.n h.num q (mp kn (l.map Prod.fst) evs) xs),?_,?_⟩
   ·rcases hyF.1 with hy'|hy'
    ·exact .inl hy'
    ·exact .inr hy'
   ·have e1:snt++List.map par out++[par (Mo.gossipF h.n h.num q (mp kn (l.map Prod.fst) evs))]++List.map par (qrh h.n h.num q (mp kn (l.map Prod.fst) evs) xs)=snt++(out++(Mo.gossipF h.n h.num q (mp kn (l.map Prod.fst) evs)::qrh h.n h.num q (mp kn (l.map Prod.fst) evs) xs)).map par:=by simp
    rw[e1] at p4;refine p4.wide fun y hy=>?_;rcases hy with hy|hy
    ·exact Plus.norm hw1r y hy.1
    ·have:=hch3.size;exact .inr (by omega)
   ·rw[yaM,hq];exact .snoc q xs hbt hxp
 have HFIN:Hid (∀wr sv' out,Chg F w1 wr->PA wr (Plus F w1) b h kn l evs (snt++out.map par) kb mb rbs es clk ev sv'->Built h.n h.num (mp kn (l.map Prod.fst) evs) (l.map Prod.fst) (os.take os.length) out->Chg F w0 wr/\∃sv' out,PA wr (Plus F w0) b h kn l evs (snt++out.map par) kb mb rbs es clk ev sv'/\Mo.Outs h.n h.num (mp kn (l.map Prod.fst) evs) out):=fun wr sv' out hch hp hbt=>by
  rw[yaT,HOS.out] at hbt;exact⟨(Chg.of_below HB1.out).trans (hch.mono fun y _ hy=>.inl hy),sv',out,hp.wide fun y hy=>hy.elim .inl fun hy=>.inr (by have:=HB1.out.size;omega),hbt.mo hnum⟩
 subst hv;clear hown hb1 hos HOT HP0 HMF HO HF HC HB2 HB1 HBND hs hlen;go_wp2_with fail
 go_loopw [16] (fun i wr=>∃k:Nat,k<=os.length/\i=J k/\Chg F w1 wr/\∃sv' out,PA wr (Plus F w1) b h kn l evs (snt++out.map par) kb mb rbs es clk ev sv'/\Built h.n h.num (mp kn (l.map Prod.fst) evs) (l.map Prod.fst) (os.take k) out) (fun i _=>os.length - (intOf i).toNat)
 case atStart=>exact⟨0,by omega,rfl,Chg.refl _ _,P0.out⟩
 case round=>
  obtain⟨k,hk,rfl,hch,sv',out,hp,hbt⟩:=hrel;have HCH:Hid (Chg F w1 wr):=hch;have HP:Hid (PA wr (Plus F w1) b h kn l evs (snt++out.map par) kb mb rbs es clk ev sv'):=hp;have HBT:Hid (Built h.n h.num (mp kn (l.map Prod.fst) evs) (l.map Prod.fst) (os.take k) out):=hbt;clear hch hp hbt;have hol:=hosl.out;by_cases hlt:k<os.length
  ·obtain⟨q,hq⟩:∃q,os[k]?=some q:=⟨_,yh hlt⟩;obtain⟨g,rfl,cg⟩:=HCELL.out wr k q HCH.out hq;have HG:=HSTEP.out k wr sv' out q hq HCH.out HP.out HBT.out;have HG':Hid (Calls prog 111 _ _ _):=HG;have hlt1:(k:Int)<(os.length:Int):=by omega
   have hk0:(0:Int)<=(k:Int):=by omega
   clear hq HG HSTEP HCELL;go_wp2_with fail
   refine HG'.out.mono ?_;rintro e w3 ⟨rfl,c5,hm⟩;have HM:Hid (Calls prog 112 _ _ _):=hm;clear hm HG';go_wp2_with fail
   refine HM.out.mono ?_;rintro e w4 ⟨rfl,hres⟩;have HRES:Hid (Chg F w1 w4/\∃sv'' out',PA w4 (Plus F w1) b h kn l evs (snt++out'.map par) kb mb rbs es clk ev sv''/\Built h.n h.num (mp kn (l.map Prod.fst) evs) (l.map Prod.fst) (os.take (k+1)) out'):=hres;clear hres HM;go_wp2_with fail
   exact⟨⟨k+1,by omega,by go_num,HRES.out.1,HRES.out.2⟩,by simp[intOf];omega⟩
  ·have hge:¬(k:Int)<(os.length:Int):=by omega
   have hkl:k=os.length:=by omega
   subst hkl;have HE:Hid (Chg F w0 wr/\∃sv' out,PA wr (Plus F w0) b h kn l evs (snt++out.map par) kb mb rbs es clk ev sv'/\Mo.Outs h.n h.num (mp kn (l.map Prod.fst) evs) out):=HFIN.out wr sv' out HCH.out HP.out HBT.out;go_wp2_with fail
   go_ret;exact⟨rfl,HE.out⟩
theorem Mo.Comes.snoc{n j:Nat}{l:List Codec.Frame}{p q r:Mo.MP}(hc:Mo.Comes n j l p q){f:Codec.Frame}(k:Nat)(hcalm:Mo.Calm n k j f)(hcome:Mo.Come n j k f q r):Mo.Comes n j (l++[f]) p r:=by
 induction hc with
 |nil p=>exact .cons k hcalm hcome (.nil _)
 |cons k' hc' hcome' _ ih=>exact .cons k' hc' hcome' (ih hcome)
theorem Mo.Delivs.sub{n j:Nat}{p p':Mo.MP}(hd:Mo.Delivs n j p p'):∀m∈p'.held,m∈p.held:=by
 induction hd with
 |none=>exact fun m hm=>hm
 |more x hd' _ ih=>exact fun m hm=>((hd'.held m).1 (ih m hm)).1
theorem Mo.Come.sub{n j k:Nat}{f:Codec.Frame}{p p':Mo.MP}(hc:Mo.Come n j k f p p'):∀m∈p'.held,m∈p.held\/f.msgs=[m]:=by
 intro m hm;rcases hc with ⟨-,hl⟩|⟨x,p1,p2, -,hx,h1,h2,h3, -⟩
 ·exact .inl ((hl.held m).1 hm).1
 ·rcases (h2.held m).1 (h3.sub m hm) with h4|h4
  ·exact .inl ((h1.held m).1 h4).1
  ·exact .inr (by rw[h4.1];exact hx)
theorem PX.len{ms:List Codec.Msg}(hp:PX w F b h kn ms evs snt)(hn:h.n<=6)(o:Ok h kn ms evs):ms.length<=126:=by
 obtain⟨l,rfl,kb,mb,rbs,es,clk,ev,sv,p⟩:=hp;have ha:=qii.1 p.apart;have key:∀xs:List Codec.Msg,(∀m∈xs,∃s:Nat,s<h.n/\m.sender=s/\m.time.length=h.n/\0<=m.seq/\m.seq<=20)->Mo.Apart xs->(xs.map fun m=>m.sender.toNat * 21+m.seq.toNat).Nodup:=by
  intro xs;induction xs with
  |nil=>intros;simp
  | cons x xs ih =>
    intro hs hap;have hap':=ya5.1 hap;rw[yN,List.nodup_cons];refine⟨fun hx=>?_,ih (fun m hm=>hs m (by simp[hm])) hap'.2⟩;obtain⟨y,hy,e⟩:=yW.1 hx;obtain⟨s1, -,e1, -,a1,a2⟩:=hs x (by simp);obtain⟨s2, -,e2, -,b1,b2⟩:=hs y (by simp[hy]);exact hap'.1 y hy ⟨by omega,by omega⟩
 have h1:=key (l.map Prod.fst) o.held ha;have h2:=Mo.nodup_le 126 _ h1 fun x hx=>by
  obtain⟨m,hm,rfl⟩:=yW.1 hx;obtain⟨s1,hs1,e1, -,a1,a2⟩:=o.held m hm;omega
 simpa using h2
theorem PX.clip{ms:List Codec.Msg}(hp:PX w F b h kn ms evs snt):PX w (fun x=>F x/\x<w.heap.size) b h kn ms evs snt:=by
 obtain⟨l,rfl,kb,mb,rbs,es,clk,ev,sv,p⟩:=hp;exact p.clip.px
theorem qik{f:Codec.Frame}(hf:Codec.fits f=true):∀m∈f.msgs,Codec.msgFits m=true:=by
 intro m hm;simp only[Codec.fits,yB,Codec.msgsFit,y5] at hf;exact hf.2.2 m hm
theorem qnc{ms:List Codec.Msg}(hc:CalmHd h)(hp:PX w F b h kn ms evs snt)(hF:∀x,F x->x<w.heap.size)(o:Ok h kn ms evs)(hmf:∀m∈ms,Codec.msgFits m=true)(hs:snt.length<=100000) :
 Calls prog 71 #[pT b 0] w fun e w'=>e=.returned (J 0)/\Chg F w w'/\∃out,PX w' (Plus F w) b h kn ms evs (snt++out.map par)/\Mo.Outs h.n h.num (mp kn ms evs) out:=by
 have hl:=hp.len hc.n1 o;obtain⟨l,rfl,kb,mb,rbs,es,clk,ev,sv,p⟩:=hp;rw[yL] at hl;refine(qqp hc p hF o (fun x hx=>hmf x.1 (yaC hx)) (by omega) hs).mono ?_;rintro e w' ⟨rfl,hch,sv',out,p',ho⟩;exact⟨rfl,hch,out,p'.px,ho⟩
structure Fit (n j:Nat) (f:Codec.Frame):Prop where
 ok:FrOk n f
 calm:∃k,Mo.Calm n k j f
theorem qqq{ms:List Codec.Msg}(hc:CalmHd h)(hp:PX w F b h kn ms evs snt)(o:Ok h kn ms evs)(hmf:∀m∈ms,Codec.msgFits m=true)(hs:snt.length<=100000)(fs:List Codec.Frame)(hfs:∀f∈fs,Fit h.n h.num f)(hfl:fs.length<=100000)(ao:Option Addr)(ac:Nat)
 (hcell:∀i f,fs[i]?=some f->∃g,ao=some ⟨g,0,none⟩/\¬F g/\w.cell? (aT g i)=some (.string ⟨(Codec.encB f).toArray⟩)) :
 Calls prog 101 #[pT b 0,.slice ao fs.length ac] w fun e w'=>e=.returned (.tuple #[])/\Chg F w w'/\∃kn' ms' evs' out,PX w' (Plus F w) b h kn' ms' evs' (snt++out.map par)/\Mo.Comes h.n h.num fs (mp kn ms evs) (mp kn' ms' evs')/\Mo.Outs h.n h.num (mp kn' ms' evs') out/\Ok h kn' ms' evs'/\∀m∈ms',Codec.msgFits m=true:=by
 have P0:Hid (∃kn' ms' evs',PX w (Plus F w) b h kn' ms' evs' snt/\Mo.Comes h.n h.num (fs.take 0) (mp kn ms evs) (mp kn' ms' evs')/\Ok h kn' ms' evs'/\∀m∈ms',Codec.msgFits m=true):=⟨kn,ms,evs,hp.wide Plus.sub,by rw[List.take_zero];exact .nil _,o,hmf⟩;have HSTEP:Hid (∀(k:Nat) f wr kn' ms' evs',fs[k]?=some f->Chg F w wr->PX wr (Plus F w) b h kn' ms' evs' snt->Mo.Comes h.n h.num (fs.take k) (mp kn ms evs) (mp kn' ms' evs')->Ok h kn' ms' evs'->(∀m∈ms',Codec.msgFits m=true)->(∃g,ao=some ⟨g,0,none⟩/\wr.cell? (aT g k)=some (.string ⟨(Codec.encB f).toArray⟩))/\Calls prog 74 #[pT b 0,.string ⟨(Codec.encB f).toArray⟩] wr fun e w3=>e=.returned (.tuple #[])/\Chg F w w3/\∃kn' ms' evs',PX w3 (Plus F w) b h kn' ms' evs' snt/\Mo.Comes h.n h.num (fs.take (k+1)) (mp kn ms evs) (mp kn' ms' evs')/\Ok h kn' ms' evs'/\∀m∈ms',Codec.msgFits m=true):=fun k f wr kn' ms' evs' hf hch hpx hcs ho hm=>by
  obtain⟨g,hao,hgF,hcg⟩:=hcell k f hf;have hfit:=hfs f (yy hf);obtain⟨k',hcalm⟩:=hfit.calm;have hglt:g<w.heap.size:=yI w _ hcg;refine⟨⟨g,hao,(yq (a:=(aT g k)) (hch.block g hglt hgF)).trans hcg⟩,?_⟩;refine(qij hc hpx.clip (fun x hx=>hx.2) ho f hfit.ok k' hcalm).mono ?_;rintro e w3 ⟨rfl,hch3,kn3,ms3,evs3,p3,hcome,ho3⟩;refine⟨rfl,hch.trans (hch3.mono fun x _ hx=>hx.1),kn3,ms3,evs3,p3.wide fun x hx=>?_,?_,ho3,fun m hm3=>?_⟩
  ·rcases hx with hx|hx
   ·exact hx.1
   ·exact .inr (by have:=hch.size;omega)
  ·rw[yaM,hf];exact hcs.snoc k' hcalm hcome
  ·rcases hcome.sub m hm3 with h1|h1
   ·exact hm m h1
   ·exact qik hfit.ok.fits m (by rw[h1];simp)
 have HFIN:Hid (∀wr kn' ms' evs',Chg F w wr->PX wr (Plus F w) b h kn' ms' evs' snt->Mo.Comes h.n h.num (fs.take fs.length) (mp kn ms evs) (mp kn' ms' evs')->Ok h kn' ms' evs'->(∀m∈ms',Codec.msgFits m=true)->Calls prog 71 #[pT b 0] wr fun e w'=>e=.returned (J 0)/\Chg F w w'/\∃kn' ms' evs' out,PX w' (Plus F w) b h kn' ms' evs' (snt++out.map par)/\Mo.Comes h.n h.num fs (mp kn ms evs) (mp kn' ms' evs')/\Mo.Outs h.n h.num (mp kn' ms' evs') out/\Ok h kn' ms' evs'/\∀m∈ms',Codec.msgFits m=true):=fun wr kn' ms' evs' hch hpx hcs ho hm=>by
  rw[yaT] at hcs;refine(qnc hc hpx.clip (fun x hx=>hx.2) ho hm hs).mono ?_;rintro e w3 ⟨rfl,hch3,out,p3,hout⟩;refine⟨rfl,hch.trans (hch3.mono fun x _ hx=>hx.1),kn',ms',evs',out,p3.wide fun x hx=>?_,hcs,hout,ho,hm⟩;rcases hx with hx|hx
  ·exact hx.1
  ·exact .inr (by have:=hch.size;omega)
 clear hp o hmf hs hfs hcell hc;go_enter Tryz.func101,Tryz.ntmps101
 go_wp2_with fail
 go_loopw [8] (fun i wr=>∃k:Nat,k<=fs.length/\i=J k/\Chg F w wr/\∃kn' ms' evs',PX wr (Plus F w) b h kn' ms' evs' snt/\Mo.Comes h.n h.num (fs.take k) (mp kn ms evs) (mp kn' ms' evs')/\Ok h kn' ms' evs'/\∀m∈ms',Codec.msgFits m=true) (fun i _=>fs.length - (intOf i).toNat)
 case atStart=>exact⟨0,by omega,rfl,Chg.refl _ _,P0.out⟩
 case round=>
  obtain⟨k,hk,rfl,hch,kn',ms',evs',hpx,hcs,ho,hm⟩:=hrel;by_cases hlt:k<fs.length
  ·obtain⟨f,hf⟩:∃f,fs[k]?=some f:=⟨_,yh hlt⟩;obtain⟨⟨g,rfl,cg⟩,hcall⟩:=HSTEP.out k f wr kn' ms' evs' hf hch hpx hcs ho hm;have HCALL:Hid (Calls prog 74 _ _ _):=hcall;have hlt1:(k:Int)<(fs.length:Int):=by omega
   have hk0:(0:Int)<=(k:Int):=by omega
   clear hch hpx hcs ho hm hf hcall HSTEP HFIN P0;generalize (Codec.encB f).toArray=bs at cg HCALL;go_wp2_with fail
   refine HCALL.out.mono ?_;rintro e w3 ⟨rfl,hres⟩;have HRES:Hid (Chg F w w3/\∃kn' ms' evs',PX w3 (Plus F w) b h kn' ms' evs' snt/\Mo.Comes h.n h.num (fs.take (k+1)) (mp kn ms evs) (mp kn' ms' evs')/\Ok h kn' ms' evs'/\∀m∈ms',Codec.msgFits m=true):=hres;clear hres HCALL;go_wp2_with fail
   exact⟨⟨k+1,by omega,by go_num,HRES.out.1,HRES.out.2⟩,by simp[intOf];omega⟩
  ·have hge:¬(k:Int)<(fs.length:Int):=by omega
   have hkl:k=fs.length:=by omega
   subst hkl;have HT:Hid (Calls prog 71 _ _ _):=HFIN.out wr kn' ms' evs' hch hpx hcs ho hm;clear hch hpx hcs ho hm HSTEP HFIN P0;go_wp2_with fail
   refine HT.out.mono ?_;rintro e w3 ⟨rfl,hres⟩;have HRES:Hid (Chg F w w3/\∃kn' ms' evs' out,PX w3 (Plus F w) b h kn' ms' evs' (snt++out.map par)/\Mo.Comes h.n h.num fs (mp kn ms evs) (mp kn' ms' evs')/\Mo.Outs h.n h.num (mp kn' ms' evs') out/\Ok h kn' ms' evs'/\∀m∈ms',Codec.msgFits m=true):=hres;clear hres HT;go_wp2_with fail
   go_end0
   exact⟨rfl,HRES.out.1,HRES.out.2⟩
theorem qd3(g c:Nat)(row:List Int)(w:World)(hb:BlkAt w g 3 (ints row).toArray)(hn:row.length<=6)(h1:1<=row.length):Calls prog 118 #[sT g row.length c] w fun e w'=>∃g' cap,e=.returned (sT g' row.length cap)/\w'.ownsRow w.heap.size 3 1 (sT g' row.length cap) row.length (ints row)/\Below w.heap.size w w':=by
 obtain⟨i0,hi,hz0,hz1,hz2⟩:=info_parts infoI3;have H0:Hid ((w.alloc (.cells #[] 3)).ownsRow w.heap.size 3 1 (sT w.heap.size 0 0) 0 []):=⟨rfl,.inr ⟨_,_,#[],rfl,yb _,heap_alloc_new w _,yb _,yaA _,rfl,rfl⟩⟩;have HB:Hid (BlkAt (w.alloc (.cells #[] 3)) g 3 (ints row).toArray):=hb.alloc _;have hne:=fun w':World=>Lib.run_eql_slice_nil (P:=prog) w' 69 3 (some ⟨g,0,none⟩) row.length c 0 0 Tryz.underlying69;simp only[Option.isNone_some] at hne;clear hb;go_enter Tryz.func118,Tryz.ntmps118
 go_wp2_with (at_builtin;refine wpList_append_own_at _ rfl _ _ 69 rfl w.heap.size 3 i0 (J 0) 1 8 Tryz.underlying69 hi hz0 hz1 hz2 rfl (by decide) _ _ _ rfl H0.out ⟨g,0,none⟩ row.length c (ints row) rfl ?c0 ?c1 ?c2 ?c3 ?c4 ?c5 ?_)
 case c0=>rw[qex];simp
 case c1=>intro j u hj;rw[add0];exact HB.out.cell j u (by simpa using hj)
 case c2=>intro u hu;simp[ints] at hu;obtain⟨_,_,rfl⟩:=hu;rfl
 case c3=>unfold maxLen;omega
 case c4=>omega
 case c5=>simp
 intro v w2 ho hg _ _;obtain⟨g',cap,rfl,_,_⟩:=World.ownsRow.form ho (by omega);go_wp2
 go_ret;refine⟨g',cap,rfl,ho,?_⟩;exact((yi _ _).alloc (yb _) _).trans ⟨hg.os,hg.tape,hg.output,hg.size,fun x hx=>hg.block x (by simp;omega) (fun e=>by injection e with e;simp at e;omega)⟩
theorem qgf(hc:CalmHd h)(p:PA w F b h kn l evs snt kb mb rbs es clk ev sv)(hrow:RowOk h.n (kn.getD h.num []))(t:ByteArray)(ht:t.size<=4000000) :
 Calls prog 137 #[pT b 0,.string t] w fun e w'=>∃g cap,e=.returned (msgV ⟨h.num,(kn.getD h.num []).getD h.num 0+1,(kn.getD h.num []).set h.num ((kn.getD h.num []).getD h.num 0+1),t⟩ (sT g h.n cap))/\Row w' (fun x=>w.heap.size<=x) 3 1 (sT g h.n cap) h.n (ints ((kn.getD h.num []).set h.num ((kn.getD h.num []).getD h.num 0+1)))/\Below w.heap.size w w':=by
 obtain⟨r,hr,hbr,hrl, -⟩:=p.row_at hc.num;have hnum:=hc.num;have hn6:=hc.n1;have hB0:Below w.heap.size w (w.alloc (.cells #[J 0,J 0,sN,.string ⟨#[]⟩] 179)):=(yi _ _).alloc (yb _) _;have HR:Hid (Calls prog 119 #[pT b 0] (w.alloc (.cells #[J 0,J 0,sN,.string ⟨#[]⟩] 179)) fun e w''=>e=.returned (sT r h.n h.n)/\Below (w.heap.size+1) (w.alloc (.cells #[J 0,J 0,sN,.string ⟨#[]⟩] 179)) w''/\Below w.heap.size w w''):=(qar (p.below hB0) hr).mono fun e w'' hh=>by
  obtain⟨rfl,hb, -⟩:=hh;exact⟨rfl,hb.mono (by simp),hB0.trans (hb.mono (by simp))⟩
 have HCL:Hid (∀w',Below w.heap.size w w'->Calls prog 118 #[sT r h.n h.n] w' fun e w''=>∃g' cap,e=.returned (sT g' h.n cap)/\w''.ownsRow w'.heap.size 3 1 (sT g' h.n cap) h.n (ints (kn.getD h.num []))/\Below w'.heap.size w' w''):=fun w' hw=>by
  have:=qd3 r h.n (kn.getD h.num []) w' (hbr.below hw hbr.lt) (by omega) (by omega);rw[hrl] at this;exact this
 have HC0:Hid (∀w',Below w.heap.size w w'->w'.cell? (aT b 0)=some (J h.num)):=fun w' hw=>(p.blk.below hw p.blk.lt).cell 0 _ rfl;have HSC:Hid (∀w',Calls prog 183 #[.string t] w' fun e w''=>e=.returned (.string t)/\Below w'.heap.size w' w''):=fun w'=>qcs t w' ht;have hx:=hrow h.num hnum;have HXN:Hid (BlkAt (w.alloc (.cells #[J 0,J 0,sN,.string ⟨#[]⟩] 179)) w.heap.size 179 #[J 0,J 0,sN,.string ⟨#[]⟩]):=BlkAt.new w w.heap.size rfl 179 _;have hs1:Hid ((w.alloc (.cells #[J 0,J 0,sN,.string ⟨#[]⟩] 179)).heap.size=w.heap.size+1):=by simp[Hid]
 have hp0:(0:Int)<=(h.num:Int):=by omega
 have hp1:(h.num:Int)<(h.n:Int):=by omega
 generalize hxe:(kn.getD h.num []).getD h.num 0=x at hx ⊢;generalize hre:kn.getD h.num []=row at hrl HCL hxe ⊢;have hwr:wrap64 (x+1)=x+1:=by unfold wrap64;omega
 have HXE:Hid (row.getD h.num 0=x):=hxe;clear p hbr hr hc hrow hB0 hre hxe;go_enter Tryz.func137,Tryz.ntmps137
 go_wp2_with fail
 generalize w.alloc (.cells #[J 0,J 0,sN,.string ⟨#[]⟩] 179)=w1 at HR HXN hs1 ⊢;refine HR.out.mono ?_;rintro e w2 ⟨rfl,hb2,hB2⟩;have HB2:Hid (Below (w.heap.size+1) w1 w2/\Below w.heap.size w w2):=⟨hb2,hB2⟩;have hcl:=HCL.out w2 hB2;have HCL2:Hid (Calls prog 118 _ _ _):=hcl;clear hb2 hB2 hcl HCL HR;go_wp2_with fail
 refine HCL2.out.mono ?_;rintro e w3 ⟨g,cap,rfl,hown,hb3⟩;have hs2:Hid (w.heap.size+1<=w2.heap.size):=by have:=HB2.out.1.size;rw[hs1.out] at this;exact this
 have HB3:Hid (Below (w.heap.size+1) w1 w3/\Below w.heap.size w w3):=⟨HB2.out.1.trans (hb3.mono hs2.out),HB2.out.2.trans (hb3.mono HB2.out.2.size)⟩;have hgl:=hown.lt g rfl;obtain⟨cur,hcap,hcur,hcz,htake⟩:∃cur:Array Value,h.n<=cap/\w3.heap[g]?=some (.cells cur 3 (0,0))/\cur.size=cap * 1/\cur.toList.take (h.n * 1)=ints row:=by
  rcases hown.2 with ⟨h0, -⟩|⟨g',cap',cur,h0, -,hc',hle, -,hcs,htk⟩
  ·cases h0
  ·injection h0 with h0 _ h2;injection h0 with h0;injection h0 with h0;subst h0 h2;exact⟨cur,hle,hc',hcs,htk⟩
 have HOWN:Hid (w3.ownsRow w2.heap.size 3 1 (sT g h.n cap) h.n (ints row)):=hown;have cx:w3.cell? (aT g h.num)=some (J x):=by
  have:=hown.cells rfl h.num (J x) (by
   have:row[h.num]?=some x:=by rw[getD_some (by omega),HXE.out]
   simp[ints,this])
  rw[add0] at this;exact this
 have hfz:w3.frozen? (aT g h.num)=false:=frozen_of_row w3 g _ cur 3 hcur;have HSET:Hid ((w3.setCell ⟨g,h.num,none⟩ (J (x+1))).ownsRow w.heap.size 3 1 (sT g h.n cap) h.n (ints (row.set h.num (x+1)))):=by
  have hB:=(show BlkAt w3 g 3 cur from hcur).set h.num (J (x+1));have hmax:cap<=maxLen:=by
   rcases hown.2 with ⟨h0, -⟩|⟨g',cap',cur',h0, -, -, -,hmx, -⟩
   ·cases h0
   ·injection h0 with _ _ h2;subst h2;exact hmx
  refine⟨by simp[ints,hrl],.inr ⟨g,cap,_,rfl,?_,hB,hcap,hmax,by simpa using hcz,?_⟩⟩
  ·have:=hs2.out;omega
  ·rw[Array.toList_setIfInBounds,List.take_set,htake];simp[ints,List.map_set]
 have hg2:Hid (w2.heap.size<=g):=hgl.1;clear hown hb3 hgl hcap hcur hcz htake HCL2;have c0:=HC0.out w3 HB3.out.2;go_wp2_with fail
 have hO4:Only g w3 (w3.setCell ⟨g,h.num,none⟩ (J (x+1))):=(Only.refl g w3).set _ _;have hBg:Below (w.heap.size+1) w3 (w3.setCell ⟨g,h.num,none⟩ (J (x+1))):=hO4.below (by have:=hs2.out;have:=hg2.out;omega);have HB4:Hid (Below (w.heap.size+1) w1 (w3.setCell ⟨g,h.num,none⟩ (J (x+1)))/\Below w.heap.size w (w3.setCell ⟨g,h.num,none⟩ (J (x+1)))):=⟨HB3.out.1.trans (hBg.mono (yb _)),HB3.out.2.trans (hBg.mono (by omega))⟩;have y1:(w3.setCell ⟨g,h.num,none⟩ (J (x+1))).cell? (aT g h.num)=some (J (x+1)):=by
  obtain⟨g',cap',cur,h0, -,hc', -⟩:∃g' cap' cur,Value.slice (some ⟨g,0,none⟩) h.n cap=sT g' h.n cap'/\w.heap.size<=g'/\(w3.setCell ⟨g,h.num,none⟩ (J (x+1))).heap[g']?=some (.cells cur 3 (0,0))/\True:=by
   rcases HSET.out.2 with ⟨h0, -⟩|⟨g',cap',cur,h0,h1,hc', -⟩
   ·cases h0
   ·exact⟨g',cap',cur,h0,h1,hc',trivial⟩
  have:=HSET.out.cells rfl h.num (J (x+1)) (by simp[ints,hrl,hnum]);rw[add0] at this;exact this
 have hgl4:Hid (g<(w3.setCell ⟨g,h.num,none⟩ (J (x+1))).heap.size):=yI _ _ y1;generalize w3.setCell ⟨g,h.num,none⟩ (J (x+1))=w4 at HSET HB4 y1 hgl4 ⊢;have HS:Hid (∀w',Below w4.heap.size w4 w'->w'.cell? (aT b 0)=some (J h.num)/\w'.cell? (aT g h.num)=some (J (x+1))):=fun w' hw=>⟨HC0.out w' (HB4.out.2.trans (hw.mono HB4.out.2.size)),(hw.cell (p:=(aT g h.num)) hgl4.out).trans y1⟩;clear hO4 hBg y1 HB3 HOWN cx hfz c0 HC0 HXE hwr;refine Ends.begin (fun w'=>w'.cell? (aT b 0)=some (J h.num)/\w'.cell? (aT g h.num)=some (J (x+1))) 15 rfl (HS.out _ (yi _ _).drew) (fun hHeld=>?_);refine tk 0 ?_;refine tk 1 ?_;refine tk 2 ?_;refine tk 3 ?_;refine tk 4 ?_;refine tk 5 ?_;refine tk 6 ?_;refine tk 7 ?_;refine tk 8 ?_;refine tk 9 ?_;refine tk 10 ?_;refine tk 11 ?_;refine tk 12 ?_;refine te 13 fun K hK=>?_;go_simp;refine(HSC.out _).mono ?_;rintro e w5 ⟨rfl,hb5⟩;have HB5:Hid (Below w4.heap.size w4 w5):=((yi _ _).drew).trans (hb5.mono (by simp));have HX5:Hid (BlkAt w5 w.heap.size 179 #[J 0,J 0,sN,.string ⟨#[]⟩]):=HXN.out.below (HB4.out.1.trans (HB5.out.mono (by have:=HB4.out.1.size;rw[hs1.out] at this;exact this))) (by omega);have HBW5:Hid (Below w.heap.size w w5):=HB4.out.2.trans (HB5.out.mono HB4.out.2.size);have HR5:Hid (w5.ownsRow w.heap.size 3 1 (sT g h.n cap) h.n (ints (row.set h.num (x+1)))):=qo HSET.out HB5.out;clear hb5;go_wp2_with fail
 refine hK.out _ _ (fun _=>HS.out _ HB5.out) (fun hHeld=>?_);clear hK K;try simp only[pU]
 have hHeld:=hHeld (by decide);refine tk 14 ?_;have f0:=HX5.out.frozen 0;have f1:=HX5.out.frozen 1;have f2:=HX5.out.frozen 2;have f3:=HX5.out.frozen 3;have z0:=HX5.out.cell 0 _ rfl;have z1:=HX5.out.cell 1 _ rfl;have z2:=HX5.out.cell 2 _ rfl;have z3:=HX5.out.cell 3 _ rfl;simp only[yf,yd,ye] at z0 z1 z2 z3;refine te 15 fun K hK=>?_;go_simp;refine hK.out _ _ (fun h=>absurd rfl h) (fun _=>?_);clear hK K;try simp only[pU]
 refine Ends.done (by kernel_rfl) ?_ _;obtain⟨hS4,hO6⟩:=store4 HX5.out (J h.num) (J (x+1)) (sT g h.n cap) (.string t);have HFIN:Hid (Row _ (fun y=>w.heap.size<=y) 3 1 (sT g h.n cap) h.n (ints (row.set h.num (x+1)))/\Below w.heap.size w _):=⟨⟨qf (qd HR5.out fun g' hg'=>hO6.block g' (fun e=>by
  have:g'=g:=by simpa[Value.ownBlock] using hg'.symm
  have h1:=hs2.out;have h2:=hg2.out;omega)) (yaA _),fun g' hg'=>(HR5.out.lt g' hg').1⟩,HBW5.out.trans (hO6.below (yb _))⟩
 generalize ((((w5.setCell ⟨w.heap.size,0,none⟩ (J h.num)).setCell ⟨w.heap.size,1,none⟩ (J (x+1))).setCell ⟨w.heap.size,2,none⟩ (sT g h.n cap)).setCell ⟨w.heap.size,3,none⟩ (.string t))=w6 at hS4 hO6 HFIN ⊢;have q0:=hS4.cell 0 _ rfl;have q1:=hS4.cell 1 _ rfl;have q2:=hS4.cell 2 _ rfl;have q3:=hS4.cell 3 _ rfl;simp only[yf,yd,ye] at q0 q1 q2 q3;clear hO6 hS4 HS HX5 f0 f1 f2 f3 z0 z1 z2 z3 hHeld HSC;go_wp2_with fail
 (try simp only[Exit.inBlock,Exit.then])
 refine bodyPost_ret (v:=.agg #[J h.num,J (x+1),sT g h.n cap,.string t]) (by simp[results,Tryz.results137,go_sem,q0,q1,q2,q3]) rfl ?_;refine⟨g,cap,rfl,?_⟩;have hf1:=HFIN.out.1;have hf2:=HFIN.out.2;exact⟨hf1,hf2⟩
theorem qlr(hc:CalmHd h)(p:PA w F b h kn l evs snt kb mb rbs es clk ev sv)(t:ByteArray)(ht:t.size<=16) :
 Calls prog 136 #[pT b 0,.string t] w fun e w'=>Below w.heap.size w w'/\((e=.returned (J 0)/\(kn.getD h.num []).getD h.num 0<20)\/e=.returned (J 9)\/e=.returned (J 10)):=by
 obtain⟨r,hr,hbr,hrl, -⟩:=p.row_at hc.num;have hnum:=hc.num;have HA:Hid (Calls prog 105 _ _ _):=qe4 b h _ _ _ _ w p.blk hc.crashed hc.out;have HR:Hid (∀w',Below w.heap.size w w'->Calls prog 119 #[pT b 0] w' fun e w''=>e=.returned (sT r h.n h.n)/\Below w'.heap.size w' w''/\w''.heap=w'.heap):=fun w' hw=>qar (p.below hw) hr;have HHO:Hid (∀w',Below w.heap.size w w'->Calls prog 182 #[pT b 0] w' fun e w''=>(∃x:Int,e=.returned (J x))/\Below w'.heap.size w' w''):=fun w' hw=>qe9 (p.below hw);have HC:Hid (∀w',Below w.heap.size w w'->w'.cell? (aT b 0)=some (J h.num)/\w'.cell? (aT b 2)=some (J h.win)/\w'.cell? (aT b 5)=some (.bool false)/\w'.cell? (aT r h.num)=some (J ((kn.getD h.num []).getD h.num 0))):=fun w' hw=>by
  have c5:=(p.below hw).blk.cell 5 _ rfl;simp only[Hd.cells,yf,yd,ye,hc.blocked] at c5;exact⟨(p.below hw).blk.cell 0 _ rfl,(p.below hw).blk.cell 2 _ rfl,c5,(hbr.below hw hbr.lt).cell h.num _ (qcc (by omega))⟩
 have hp0:(0:Int)<=(h.num:Int):=by omega
 have hp1:(h.num:Int)<(h.n:Int):=by omega
 have ht1:¬(16:Int)<(t.size:Int):=by omega
 generalize (kn.getD h.num []).getD h.num 0=x at HC ⊢;clear p hbr hr hc;obtain⟨c0,c2,c5,cr⟩:=HC.out w (yi _ _);go_enter Tryz.func136,Tryz.ntmps136
 go_wp2_with fail
 refine HA.out.mono ?_;rintro e w0 ⟨rfl,rfl⟩;go_wp2_with fail
 refine wp_region_held_drew (S:=fun w'=>w'.cell? (aT b 0)=some (J h.num)/\w'.cell? (aT r h.num)=some (J x)) rfl ⟨c0,cr⟩ (fun hHeld=>?_);refine wk 0 ?_;refine wk 2 ?_;refine wk 3 ?_;refine wk 4 ?_;refine wk 5 ?_;refine we 1 fun K hK=>?_;go_simp;refine(HR.out _ (yi _ _).drew).mono ?_;rintro e w2 ⟨rfl,hb2, -⟩;have HB2:Hid (Below w0.heap.size w0 w2):=((yi _ _).drew).trans (hb2.mono (by simp));have hS2:Hid (w2.cell? (aT b 0)=some (J h.num)/\w2.cell? (aT r h.num)=some (J x)):=⟨(HC.out _ HB2.out).1,(HC.out _ HB2.out).2.2.2⟩;clear hb2;by_cases hx:x<20
 ·have hx':¬(20:Int)<=x:=by omega
  go_wp2_with fail
  refine hK.out _ _ hS2.out (fun hHeld=>?_);clear hK K;try simp only[pU]
  refine wk 6 ?_;refine wk 7 ?_;refine wk 8 ?_;refine wk 9 ?_;refine wpAnyH_done (by kernel_rfl) ?_ _;go_wp2_with fail
  refine wp_region_held_drew (S:=fun w'=>w'.cell? (aT b 2)=some (J h.win)) rfl (HC.out _ HB2.out.drew).2.1 (fun hHeld=>?_);refine wk 0 ?_;refine wk 2 ?_;refine wk 3 ?_;refine wk 4 ?_;refine wk 5 ?_;refine we 1 fun K hK=>?_;go_simp;refine(HHO.out _ HB2.out.drew).mono ?_;rintro e w3 ⟨⟨y,rfl⟩,hb3⟩;have HB3:Hid (Below w0.heap.size w0 w3):=HB2.out.drew.trans (hb3.mono HB2.out.size);clear hb3;by_cases hy:(h.win:Int)<=y
  ·go_wp2_with fail
   refine hK.out _ _ (HC.out _ HB3.out).2.1 (fun hHeld=>?_);clear hK K;try simp only[pU]
   refine wk 6 ?_;refine wk 7 ?_;refine wpAnyH_done (by kernel_rfl) ?_ _;go_wp2_with fail
   go_ret;exact⟨HB3.out,.inr (.inr rfl)⟩
  ·go_wp2_with fail
   refine hK.out _ _ (HC.out _ HB3.out).2.1 (fun hHeld=>?_);clear hK K;try simp only[pU]
   refine wk 6 ?_;refine wk 7 ?_;refine wpAnyH_done (by kernel_rfl) ?_ _;go_wp2_with fail
   go_ret;exact⟨HB3.out,.inl ⟨rfl,hx⟩⟩
 ·have hx':(20:Int)<=x:=by omega
  go_wp2_with fail
  refine hK.out _ _ hS2.out (fun hHeld=>?_);clear hK K;try simp only[pU]
  refine wk 6 ?_;refine wk 7 ?_;refine wk 8 ?_;refine wk 9 ?_;refine wpAnyH_done (by kernel_rfl) ?_ _;go_wp2_with fail
  go_ret;exact⟨HB2.out,.inr (.inl rfl)⟩
def ownMsg(h:Hd)(kn:List (List Int))(t:ByteArray):Codec.Msg:=⟨h.num,(kn.getD h.num []).getD h.num 0+1,(kn.getD h.num []).set h.num ((kn.getD h.num []).getD h.num 0+1),t⟩
def castKn(h:Hd)(kn:List (List Int)):List (List Int):=kn.set h.num ((kn.getD h.num []).set h.num ((kn.getD h.num []).getD h.num 0+1))
theorem qj1(hc:CalmHd h)(hk:kn.length=h.n)(hr:(kn.getD h.num []).length=h.n){ms:List Codec.Msg}(hx:(kn.getD h.num []).getD h.num 0<20)(t:ByteArray)(ht:t.size<=16) :
 Mo.Cast h.n h.num (ownMsg h kn t) (mp kn ms evs) (mp (castKn h kn) ((ms++[ownMsg h kn t]).filter (notStable h.members (castKn h kn))) (evs++[⟨1,h.view,h.num,(kn.getD h.num []).getD h.num 0+1,0,t⟩])):=by
 have hnk:h.num<kn.length:=by rw[hk];exact hc.num
 refine⟨rfl,rfl,hx,by simp only[ownMsg,yaO];exact hr,fun q hq=>?_,ht,fun q s hq hs=>?_,fun m=>?_,by rw[hc.view];rfl,qcb _⟩
 ·show ((kn.getD h.num []).set h.num _).getD q 0=_;by_cases e:q=h.num
  ·subst e;rw[if_pos rfl,yj,yaf (by omega)];rfl
  ·rw[if_neg e,yj,yao (fun h=>e h.symm),<-yj];rfl
 ·show Kn (castKn h kn) q s=_;unfold castKn;rw[qif hnk];by_cases e:q=h.num
  ·subst e;rw[if_pos rfl];by_cases e2:s=h.num
   ·subst e2;rw[if_pos ⟨rfl,rfl⟩,yj,yaf (by omega)];rfl
   ·rw[if_neg (fun h=>e2 h.2),yj,yao (fun h=>e2 h.symm),<-yj];rfl
  ·rw[if_neg e,if_neg (fun h=>e h.1)];rfl
 ·show m∈List.filter _ _↔_;rw[yM,hc.members,qaa hc.n1 (by simp[castKn,hk]),yz,yu];rfl
theorem qee(hc:CalmHd h)(hr:(kn.getD h.num []).length=h.n)(hrow:RowOk h.n (kn.getD h.num []))(hx:(kn.getD h.num []).getD h.num 0<20)(t:ByteArray)(ht:t.size<=16):Codec.msgFits (ownMsg h kn t)=true:=by
 have hn:=hc.n1;have hnum:=hc.num;have h0:=hrow h.num hnum;simp only[Codec.msgFits,yB,Codec.inB_iff,ownMsg];refine⟨⟨⟨by omega,by omega⟩,qhe (n:=h.n) hn (by rw[yaO];exact hr) fun q hq=>?_⟩,decide_eq_true ht⟩;by_cases e:q=h.num
 ·subst e;rw[yj,yaf (by omega)];simp only[yv];omega
 ·rw[yj,yao (fun h=>e h.symm),<-yj];exact hrow q hq
theorem qhj(hc:CalmHd h)(hk:kn.length=h.n)(hr:(kn.getD h.num []).length=h.n){ms:List Codec.Msg}(o:Ok h kn ms evs)(hx:(kn.getD h.num []).getD h.num 0<20)(t:ByteArray)(e:Ev)(f:Codec.Msg->Bool):Ok h (castKn h kn) ((ms++[ownMsg h kn t]).filter f) (evs++[e]):=by
 have hnk:h.num<kn.length:=by rw[hk];exact hc.num
 have h0:=o.row h.num hc.num;have hrow':(castKn h kn).getD h.num []=(kn.getD h.num []).set h.num ((kn.getD h.num []).getD h.num 0+1):=by
  unfold castKn;rw[yj,yaf hnk];rfl
 refine⟨fun m hm=>?_,?_,?_⟩
 ·rcases yz.1 (yM.1 hm).1 with h1|h1
  ·exact o.held m h1
  ·rw[yu] at h1;subst h1;exact⟨h.num,hc.num,rfl,by simp only[ownMsg,yaO];exact hr,by simp only[ownMsg];omega,by simp only[ownMsg];omega⟩
 ·rw[hrow'];intro q hq;by_cases e:q=h.num
  ·subst e;rw[yj,yaf (by omega)];simp only[yv];omega
  ·rw[yj,yao (fun h=>e h.symm),<-yj];exact o.row q hq
 ·rw[hrow',yC];have hnn:h.num<(kn.getD h.num []).length:=by rw[hr];exact hc.num
  have h1:=qha (getD_some hnn) (by omega);have h2:=o.bound;simp only[yx,yD];omega
end
section
open Go.RowKit
open Go.ChangeMaps (setBlock)
theorem qil(b mb n:Nat)(t:ByteArray)(M:Codec.Msg)(os:List Nat)(hol:os.length<=6)(w:World)(R9 S1:World->Prop)(S2:World->Nat->Nat->Prop)(S4 S6 S7:Nat->Nat->Nat->World->Prop)(S8:Nat->Nat->Nat->Option Addr->Nat->World->Prop)(Post:World->Prop)
 (hmc:Calls prog 136 #[pT b 0,.string t] w fun e w1=>(e=.returned (J 9)/\R9 w1)\/(e=.returned (J 10)/\R9 w1)\/(e=.returned (J 0)/\S1 w1))
 (hno:∀w1,S1 w1->Calls prog 137 #[pT b 0,.string t] w1 fun e w2=>∃g cap,e=.returned (msgV M (sT g n cap))/\S2 w2 g cap)
 (hct:∀w2 g cap,S2 w2 g cap->Calls prog 138 #[pT b 0,msgV M (sT g n cap),J 1] (w2.alloc (.cells #[J M.sender,J M.seq,sT g n cap,.string M.text] 179)) fun e w4=>e=.returned (.tuple #[])/\S4 w2.heap.size g cap w4)
 (hS4:∀X g cap w4,S4 X g cap w4->(∀w5,Below w4.heap.size w4 w5->w5.cell? (aT b 15)=some (.map (some mb))/\BlkAt w5 X 179 #[J M.sender,J M.seq,sT g n cap,.string M.text]/\∃w6,(Instr.mapUpdate 156 (.map (some mb)) (keyV M.sender M.seq) (msgV M (sT g n cap))).run prog w5=.ok () w6/\S6 X g cap w6))
 (hgu:∀X g cap w6,S6 X g cap w6->Calls prog 140 #[pT b 0] w6 fun e w7=>e=.returned (.tuple #[])/\S7 X g cap w7)
 (hot:∀X g cap w7,S7 X g cap w7->Calls prog 110 #[pT b 0] w7 fun e w8=>∃ao c,e=.returned (.slice ao os.length c)/\S8 X g cap ao 0 w8)
 (hS8:∀X g cap ao k w8,S8 X g cap ao k w8->BlkAt w8 X 179 #[J M.sender,J M.seq,sT g n cap,.string M.text]/\∀q:Nat,os[k]?=some q->∃g',ao=some ⟨g',0,none⟩/\w8.cell? (aT g' k)=some (J q))
 (hsd:∀X g cap ao k w8 (q:Nat),S8 X g cap ao k w8->os[k]?=some q->Calls prog 141 #[pT b 0,J q,msgV M (sT g n cap)] w8 fun e w9=>e=.returned (.tuple #[])/\S8 X g cap ao (k+1) w9)
 (hend:∀X g cap ao w9,S8 X g cap ao os.length w9->Post w9) :
 Calls prog 97 #[pT b 0,.string t] w fun e w'=>((e=.returned (J 9)\/e=.returned (J 10))/\R9 w')\/(e=.returned (J 0)/\Post w'):=by
 have HMC:Hid (Calls prog 136 _ _ _):=hmc;have HNO:Hid _:=hno;have HCT:Hid _:=hct;have HS4:Hid _:=hS4;have HGU:Hid _:=hgu;have HOT:Hid _:=hot;have HS8:Hid _:=hS8;have HSD:Hid _:=hsd;have HEND:Hid _:=hend;clear hmc hno hct hS4 hgu hot hS8 hsd hend;obtain⟨ms,mq,mt,mx⟩:=M;unfold msgV keyV at *;simp only at *;go_enter Tryz.func97,Tryz.ntmps97
 go_wp2_with fail
 refine HMC.out.mono ?_;rintro e w1 (⟨rfl,hr⟩|⟨rfl,hr⟩|⟨rfl,hs1⟩)
 ·have HR:Hid (R9 w1):=hr;clear hr HMC;go_wp2_with fail
  go_ret;exact .inl ⟨.inl rfl,HR.out⟩
 ·have HR:Hid (R9 w1):=hr;clear hr HMC;go_wp2_with fail
  go_ret;exact .inl ⟨.inr rfl,HR.out⟩
 ·have HC2:Hid (Calls prog 137 _ _ _):=HNO.out w1 hs1;clear hs1 HMC HNO;go_wp2_with fail
  refine HC2.out.mono ?_;rintro e w2 ⟨g,cap,rfl,hs2⟩;have HC3:Hid (Calls prog 138 _ _ _):=HCT.out w2 g cap hs2;clear hs2 HC2 HCT;have hX:=BlkAt.new w2 w2.heap.size rfl 179 #[J ms,J mq,sT g n cap,.string mx];have d0:=hX.cell 0 _ rfl;have d1:=hX.cell 1 _ rfl;have d2:=hX.cell 2 _ rfl;have d3:=hX.cell 3 _ rfl;simp only[yf,yd,ye] at d0 d1 d2 d3;clear hX;go_wp2_with fail
  refine HC3.out.mono ?_;rintro e w4 ⟨rfl,hs4⟩;clear d0 d1 d2 d3 HC3;have HF4:Hid _:=HS4.out _ _ _ _ hs4;generalize w2.heap.size=X at HF4 ⊢;clear hs4 HS4;go_wp2_with fail
  have HS:Hid (∀w5,Below w4.heap.size w4 w5->w5.cell? (aT b 15)=some (.map (some mb))/\w5.cell? (aT X 0)=some (J ms)/\w5.cell? (aT X 1)=some (J mq)/\w5.cell? (aT X 2)=some (sT g n cap)/\w5.cell? (aT X 3)=some (.string mx)):=fun w5 hw=>by
   obtain⟨a1,a2, -⟩:=HF4.out w5 hw;exact⟨a1,a2.cell 0 _ rfl,a2.cell 1 _ rfl,a2.cell 2 _ rfl,a2.cell 3 _ rfl⟩
  refine Ends.begin (fun w5=>w5.cell? (aT b 15)=some (.map (some mb))/\w5.cell? (aT X 0)=some (J ms)/\w5.cell? (aT X 1)=some (J mq)/\w5.cell? (aT X 2)=some (sT g n cap)/\w5.cell? (aT X 3)=some (.string mx)) 7 rfl (HS.out _ (yi _ _).drew) (fun hHeld=>?_);refine tk 0 ?_;refine tk 1 ?_;refine tk 2 ?_;refine tk 3 ?_;refine tk 4 ?_;refine tk 6 ?_;refine te 5 fun K hK=>?_;go_simp;refine(qed ⟨ms,mq,mt,mx⟩ (sT g n cap) _).mono ?_;rintro e w5 ⟨rfl,hb5⟩;have HB5:Hid (Below w4.heap.size w4 w5):=((yi _ _).drew).trans (hb5.mono (by simp));clear hb5;unfold keyV;simp only;go_wp2_with fail
  refine hK.out _ _ (fun _=>HS.out _ HB5.out) (fun hHeld=>?_);clear hK K;try simp only[pU]
  have hHeld:=hHeld (by decide);obtain⟨-, -,w6,hup,hs6⟩:=HF4.out w5 HB5.out;have HC6:Hid (Calls prog 140 _ _ _):=HGU.out _ _ _ _ hs6;clear hs6 HF4 HGU;refine te 7 fun K hK=>?_;go_simp;refine hK.out _ _ (fun h=>absurd rfl h) (fun _=>?_);clear hK K;try simp only[pU]
  refine Ends.done (by kernel_rfl) ?_ _;clear hup HS hHeld;go_wp2_with fail
  refine HC6.out.mono ?_;rintro e w7 ⟨rfl,hs7⟩;have HC7:Hid (Calls prog 110 _ _ _):=HOT.out _ _ _ _ hs7;clear hs7 HC6 HOT;go_wp2_with fail
  refine HC7.out.mono ?_;rintro e w8 ⟨ao,c,rfl,hs8⟩;have H8:Hid (S8 X g cap ao 0 w8):=hs8;clear hs8 HC7;go_wp2_with fail
  go_loopw [33] (fun i wr=>∃k:Nat,k<=os.length/\i=J k/\S8 X g cap ao k wr) (fun i _=>os.length - (intOf i).toNat)
  case atStart=>exact⟨0,by omega,rfl,H8.out⟩
  case round=>
   obtain⟨k,hk,rfl,hs8⟩:=hrel;by_cases hlt:k<os.length
   ·obtain⟨q,hq⟩:∃q,os[k]?=some q:=⟨_,yh hlt⟩;obtain⟨hX,hcell⟩:=HS8.out _ _ _ _ _ _ hs8;obtain⟨g',rfl,cg⟩:=hcell q hq;have HC9:Hid (Calls prog 141 _ _ _):=HSD.out _ _ _ _ _ _ q hs8 hq;have d0:=hX.cell 0 _ rfl;have d1:=hX.cell 1 _ rfl;have d2:=hX.cell 2 _ rfl;have d3:=hX.cell 3 _ rfl;simp only[yf,yd,ye] at d0 d1 d2 d3;have hlt1:(k:Int)<(os.length:Int):=by omega
    have hk0:(0:Int)<=(k:Int):=by omega
    clear hX hcell hs8 hq H8 HS8 HSD HEND;go_wp2_with fail
    refine HC9.out.mono ?_;rintro e w9 ⟨rfl,hs9⟩;have H9:Hid (S8 X g cap (some ⟨g',0,none⟩) (k+1) w9):=hs9;clear hs9 HC9;go_wp2_with fail
    exact⟨⟨k+1,by omega,by go_num,H9.out⟩,by simp[intOf];omega⟩
   ·have hge:¬(k:Int)<(os.length:Int):=by omega
    have hkl:k=os.length:=by omega
    subst hkl;have HP:Hid (Post wr):=HEND.out _ _ _ _ _ hs8;clear hs8 H8 HS8 HSD HEND;go_wp2_with fail
    go_ret;exact .inr ⟨rfl,HP.out⟩
end
section
open Go.RowKit
open Go.ChangeMaps (setBlock)
variable {w w':World}{F:Nat->Prop}{b:Nat}{h:Hd}{kn:List (List Int)}{l:Msgs}{evs:List Ev}{snt:List Par}{kb mb:Nat}{rbs:List Nat}{es:Array MapEntry}{clk:Nat}{ev sv:Value}
theorem PA.putMap(p:PA w F b h kn l evs snt kb mb rbs es clk ev sv)(m:Codec.Msg)(tv:Value)(hno:∀x∈l,isK m.sender m.seq x.1=false)(ht:Row w F 3 1 tv m.time.length (ints m.time))(hta:∀g,tv.ownBlock=some g->g ∉ rbs) :
 (Instr.mapUpdate 156 (.map (some mb)) (keyV m.sender m.seq) (msgV m tv)).run prog w=.ok () (setBlock w mb (.map (es.push { key:=keyV m.sender m.seq,val:=msgV m tv,born:=clk }) (clk+1)))/\w.grownBy (setBlock w mb (.map (es.push { key:=keyV m.sender m.seq,val:=msgV m tv,born:=clk }) (clk+1))) (some mb)/\PA (setBlock w mb (.map (es.push { key:=keyV m.sender m.seq,val:=msgV m tv,born:=clk }) (clk+1))) F b h kn (l++[(m,tv)]) evs snt kb mb rbs (es.push { key:=keyV m.sender m.seq,val:=msgV m tv,born:=clk }) (clk+1) ev sv:=by
 have hg:=qbi p.map (.map (es.push { key:=keyV m.sender m.seq,val:=msgV m tv,born:=clk }) (clk+1));refine⟨qm1 w m.sender m.seq _ p.map p.mo hno,hg,p.remap hg (qe6 p.map _) (p.mo.put m tv) ?_ ?_⟩
 ·refine List.pairwise_append.2 ⟨p.apart,by simp,fun x hx y hy=>?_⟩;rw[yu] at hy;subst hy;have:=hno x hx;rw[<-yaV] at this ⊢;intro e;rw[qag] at e this;exact this ⟨e.1.symm,e.2.symm⟩
 ·intro x hx hxl;rcases yz.1 hx with hx|hx
  ·exact absurd hx hxl
  ·rw[yu] at hx;subst hx;refine⟨ht.kept fun g hgg=>?_,hta⟩;obtain⟨cur,hcur⟩:=ht.tag hgg;exact hg.block g (ht.lt hgg) fun e=>qy hcur p.map (by injection e)
theorem qqr(hc:CalmHd h)(p:PA w F b h kn l evs snt kb mb rbs es clk ev sv)(hF:∀x,F x->x<w.heap.size)(o:Ok h kn (l.map Prod.fst) evs)(hs:snt.length<=100000)(t:ByteArray)(ht:t.size<=16)(hno:∀x∈l,isK (ownMsg h kn t).sender (ownMsg h kn t).seq x.1=false)(hlow:∀q,q<h.n->Kn kn q h.num<=Kn kn h.num h.num) :
 Calls prog 97 #[pT b 0,.string t] w fun e w'=>((e=.returned (J 9)\/e=.returned (J 10))/\Below w.heap.size w w')\/(e=.returned (J 0)/\(kn.getD h.num []).getD h.num 0<20/\Chg F w w'/\PX w' (Plus F w) b h (castKn h kn) ((l.map Prod.fst++[ownMsg h kn t]).filter (notStable h.members (castKn h kn))) (evs++[⟨1,h.view,h.num,(kn.getD h.num []).getD h.num 0+1,0,t⟩]) (snt++((List.range h.n).filter (fun q=>decide (q≠h.num))).map fun q=>par (Mo.dataF h.n h.num q (mp (castKn h kn) ((l.map Prod.fst++[ownMsg h kn t]).filter (notStable h.members (castKn h kn))) (evs++[⟨1,h.view,h.num,(kn.getD h.num []).getD h.num 0+1,0,t⟩])) (ownMsg h kn t)))):=by
 obtain⟨r,hr,hbr,hrl, -⟩:=p.row_at hc.num;have hkl:=p.klen;have hnum:=hc.num;have hn6:=hc.n1;have hFX:∀x,w.heap.size<=x->¬F x:=fun x hx e=>by have:=hF x e;omega
 have hMl:(ownMsg h kn t).time.length=h.n:=by simp only[ownMsg,yaO];exact hrl
 have hosl:((List.range h.n).filter (fun q=>decide (q≠h.num))).length<=6:=by rw[qdo hnum];omega
 have hmos:∀k q,((List.range h.n).filter (fun q=>decide (q≠h.num)))[k]?=some q->q<h.n/\q≠h.num:=fun k q hq=>by
  have:=yy hq;rw[yM,yaa,decide_eq_true_eq] at this;exact this
 generalize hM:ownMsg h kn t=M at hno hMl ⊢;generalize hE:evs++[⟨1,h.view,h.num,(kn.getD h.num []).getD h.num 0+1,0,t⟩]=E;generalize hos:(List.range h.n).filter (fun q=>decide (q≠h.num))=os at hosl hmos;have hoM:(kn.getD h.num []).getD h.num 0<20->Ok h (castKn h kn) ((l.map Prod.fst++[M]).filter (notStable h.members (castKn h kn))) E:=fun hx=>by rw[<-hM,<-hE];exact qhj hc hkl hrl o hx t _ _
 have hfitM:(kn.getD h.num []).getD h.num 0<20->Codec.msgFits M=true:=fun hx=>by rw[<-hM];exact qee hc hrl o.row hx t ht
 have hunst:∀q,q<h.n->q≠h.num->notStable h.members (castKn h kn) M=true:=fun q hq hne=>by
  rw[hc.members,qaa hn6 (by simp[castKn,hkl])];refine⟨q,hq,?_⟩;have e1:Mo.sn M=h.num:=by rw[<-hM];rfl
  have e2:M.seq=(kn.getD h.num []).getD h.num 0+1:=by rw[<-hM];rfl
  rw[e1,e2];unfold castKn;rw[qif (by omega),if_neg hne];have:=hlow q hq;have e3:Kn kn h.num h.num=(kn.getD h.num []).getD h.num 0:=rfl;omega
 refine(qil b mb h.n t M os hosl w (fun w1=>Below w.heap.size w w1) (fun w1=>Below w.heap.size w w1/\(kn.getD h.num []).getD h.num 0<20)
  (fun w2 g cap=>(kn.getD h.num []).getD h.num 0<20/\Below w.heap.size w w2/\Row w2 (fun x=>w.heap.size<=x) 3 1 (sT g h.n cap) h.n (ints M.time))
  (fun X g cap w4=>(kn.getD h.num []).getD h.num 0<20/\∃(G:Nat->Prop) (ev':Value),(∀x,G x->x<w4.heap.size)/\¬G X/\X<w4.heap.size/\(∀x,G x->Plus F w x)/\w.heap.size<=g/\Chg F w w4/\PA w4 G b h (castKn h kn) l E snt kb mb rbs es clk ev' sv/\Row w4 G 3 1 (sT g h.n cap) M.time.length (ints M.time)/\BlkAt w4 X 179 #[J M.sender,J M.seq,sT g h.n cap,.string M.text])
  (fun X g cap w6=>(kn.getD h.num []).getD h.num 0<20/\∃(G:Nat->Prop) (ev':Value) (es':Array MapEntry),(∀x,G x->x<w6.heap.size)/\¬G X/\X<w6.heap.size/\(∀x,G x->Plus F w x)/\Chg F w w6/\PA w6 G b h (castKn h kn) (l++[(M,sT g h.n cap)]) E snt kb mb rbs es' (clk+1) ev' sv/\BlkAt w6 X 179 #[J M.sender,J M.seq,sT g h.n cap,.string M.text])
  (fun X g cap w7=>(kn.getD h.num []).getD h.num 0<20/\∃(G:Nat->Prop) (ev':Value) (es':Array MapEntry),(∀x,G x->x<w7.heap.size)/\¬G X/\X<w7.heap.size/\(∀x,G x->Plus F w x)/\Chg F w w7/\PA w7 G b h (castKn h kn) ((l++[(M,Value.slice (some ⟨g,0,none⟩) h.n cap)]).filter fun x=>notStable h.members (castKn h kn) x.1) E snt kb mb rbs es' (clk+1) ev' sv/\BlkAt w7 X 179 #[J M.sender,J M.seq,sT g h.n cap,.string M.text])
  (fun X g cap ao k w8=>(kn.getD h.num []).getD h.num 0<20/\∃(G:Nat->Prop) (w80:World) (ev':Value) (es':Array MapEntry) (sv':Value),¬G X/\X<w80.heap.size/\(∀x,G x->Plus F w x)/\Chg F w w80/\Chg G w80 w8/\(∀(k q:Nat),os[k]?=some q->∃g',ao=some ⟨g',0,none⟩/\¬G g'/\w80.cell? (aT g' k)=some (J q))/\PA w8 (Plus G w80) b h (castKn h kn) ((l++[(M,Value.slice (some ⟨g,0,none⟩) h.n cap)]).filter fun x=>notStable h.members (castKn h kn) x.1) E (snt++(os.take k).map fun q=>par (Mo.dataF h.n h.num q (mp (castKn h kn) ((l.map Prod.fst++[M]).filter (notStable h.members (castKn h kn))) E) M)) kb mb rbs es' (clk+1) ev' sv'/\BlkAt w80 X 179 #[J M.sender,J M.seq,sT g h.n cap,.string M.text])
  (fun w9=>(kn.getD h.num []).getD h.num 0<20/\Chg F w w9/\PX w9 (Plus F w) b h (castKn h kn) ((l.map Prod.fst++[M]).filter (notStable h.members (castKn h kn))) E (snt++os.map fun q=>par (Mo.dataF h.n h.num q (mp (castKn h kn) ((l.map Prod.fst++[M]).filter (notStable h.members (castKn h kn))) E) M)))
  ?_ ?_ ?_ ?_ ?_ ?_ ?_ ?_ ?_).mono ?_
 ·refine(qlr hc p t ht).mono ?_;rintro e w1 ⟨hb,⟨rfl,hx⟩|rfl|rfl⟩
  ·exact .inr (.inr ⟨rfl,hb,hx⟩)
  ·exact .inl ⟨rfl,hb⟩
  ·exact .inr (.inl ⟨rfl,hb⟩)
 ·rintro w1 ⟨hb,hx⟩;refine(qgf hc (p.below hb) o.row t (by omega)).mono ?_;rintro e w2 ⟨g,cap,rfl,hrow,hb2⟩;refine⟨g,cap,by rw[<-hM];rfl,hx,hb.trans (hb2.mono hb.size),?_⟩;rw[<-hM];exact⟨hrow.row,fun g' hg'=>by have h1:=hrow.foot g' hg';have h2:=hb.size;omega⟩
 ·rintro w2 g cap ⟨hx,hb2,hrow⟩;have hb3:Below w2.heap.size w2 (w2.alloc (.cells #[J M.sender,J M.seq,sT g h.n cap,.string M.text] 179)):=(yi _ _).alloc (yb _) _;have hb:Below w.heap.size w (w2.alloc (.cells #[J M.sender,J M.seq,sT g h.n cap,.string M.text] 179)):=hb2.trans (hb3.mono hb2.size);have hs3:(w2.alloc (.cells #[J M.sender,J M.seq,sT g h.n cap,.string M.text] 179)).heap.size=w2.heap.size+1:=by simp
  have hbx:=BlkAt.new w2 w2.heap.size rfl 179 #[J M.sender,J M.seq,sT g h.n cap,.string M.text];have hsM:M.sender=(h.num:Int):=by rw[<-hM];rfl
  refine(qg9 (p.below hb) M (some ⟨g,0,none⟩) h.n cap 1 h.num hnum hsM hnum (by have:=o.bound;omega)).mono ?_;rintro e w4 ⟨rfl,hch,ev',p4⟩;have hglt:g<w2.heap.size:=hrow.lt rfl;have hgw:w.heap.size<=g:=hrow.foot g rfl;have hs4:=hch.size;have hk:w4.heap[g]?=w2.heap[g]?:=(hch.block g (by omega) (hFX g hgw)).trans (hb3.block g hglt);have hkn:kn.set h.num ((kn.getD h.num []).set h.num M.seq)=castKn h kn:=by rw[<-hM];rfl
  have hEE:evs++[(⟨1,h.view,M.sender,M.seq,0,M.text⟩:Ev)]=E:=by rw[<-hE,<-hM];rfl
  rw[hkn,hEE] at p4;have hwX:w.heap.size<=w2.heap.size:=hb2.size;refine⟨rfl,hx,fun x=>((Plus F (w2.alloc (.cells #[J M.sender,J M.seq,sT g h.n cap,.string M.text] 179)) x/\x<w4.heap.size)\/x=g),ev',fun x hxx=>?_,fun hxx=>?_,by omega,fun x hxx=>?_,hgw,(Chg.of_below hb).trans (hch.mono fun x _ hx=>.inl hx),p4.clip.wide fun x hx=>.inl hx,?_,?_⟩
  ·rcases hxx with hxx|rfl
   ·exact hxx.2
   ·omega
  ·rcases hxx with ⟨hxx|hxx, -⟩|hxx
   ·exact hFX _ hwX hxx
   ·omega
   ·omega
  ·rcases hxx with ⟨hxx|hxx, -⟩|hxx
   ·exact .inl hxx
   ·exact .inr (by omega)
   ·exact .inr (by omega)
  ·rw[hMl];refine⟨qd hrow.row fun g' hg'=>?_,fun g' hg'=>.inr ?_⟩
   ·have:g'=g:=by simpa[Value.ownBlock] using hg'.symm
    subst this;exact hk
   ·simpa[Value.ownBlock] using hg'.symm
  ·exact(hch.block w2.heap.size (by omega) (hFX _ hwX)).trans hbx
 ·rintro X g cap w4 ⟨hx,G,ev',hG1,hGX,hXl,hG2,hgw,hch,p4,hrow4,hbx⟩ w5 hb5;have p5:=p4.below hb5;obtain⟨h1,h2,h3⟩:=p5.putMap M (sT g h.n cap) hno (hrow4.kept fun g' hg'=>hb5.block g' (hrow4.lt hg')) (fun g' hg' hr'=>by
   have e:g'=g:=by simpa[Value.ownBlock] using hg'.symm
   have:=hF g' (p.fr g' hr');omega)
  have hmX:X≠mb:=fun e=>hGX (e▸p4.fm);refine⟨p5.blk.cell 15 _ rfl,hbx.below hb5 hXl,_,h1,hx,G,ev',_,fun x hx=>yg (hG1 x hx) (yr hb5.size h2.size),hGX,yg hXl (yr hb5.size h2.size),hG2,?_,h3,?_⟩
  ·exact hch.trans ((Chg.of_below hb5).trans (Chg.of_grown h2 fun x hx=>by injection hx with hx;subst hx;exact .inl (hG2 mb p4.fm)))
  ·exact(h2.block X (yg hXl hb5.size) (fun e=>hmX (by injection e))).trans (hbx.below hb5 hXl)
 ·rintro X g cap w6 ⟨hx,G,ev',es',hG1,hGX,hXl,hG2,hch,p6,hbx⟩;have hfl:Fits h.n (l++[(M,Value.slice (some ⟨g,0,none⟩) h.n cap)]):=fun x hx=>by
   rcases yz.1 hx with hx|hx
   ·exact(o.lists rfl).fits x hx
   ·rw[yu] at hx;subst hx;exact⟨h.num,hnum,by rw[<-hM];rfl⟩
  refine(qc8 p6 hn6 hfl).mono ?_;rintro e w7 ⟨rfl,hg7,es7,p7⟩;have hmX:X≠mb:=fun e=>hGX (e▸p6.fm);refine⟨rfl,hx,G,ev',es7,fun x hx=>yg (hG1 x hx) hg7.size,hGX,yg hXl hg7.size,hG2,hch.trans (Chg.of_grown hg7 fun x hx=>by injection hx with hx;subst hx;exact hG2 mb p6.fm),p7,?_⟩;exact(hg7.block X hXl (fun e=>hmX (by injection e))).trans hbx
 ·rintro X g cap w7 ⟨hx,G,ev',es',hG1,hGX,hXl,hG2,hch,p7,hbx⟩;refine(qfc hc p7).mono ?_;rintro e w8 ⟨v,os',rfl,hown,hb8,hos'⟩;rw[hos] at hos';subst hos';obtain⟨ao,c,hv⟩:=qp hown;refine⟨ao,c,by rw[hv],hx,G,w8,ev',es',sv,hGX,yg hXl hb8.size,hG2,hch.trans (Chg.of_below hb8),Chg.refl _ _,fun k q hq=>?_,?_,hbx.below hb8 hXl⟩
  ·have hkl':k<os'.length:=(ym.1 hq).1;rcases hown.2 with ⟨h0,h1⟩|⟨g',cap',cur,h0, -⟩
   ·omega
   ·rw[hv] at h0;injection h0 with h0;have hob:v.ownBlock=some g':=by rw[hv,h0];rfl
    have hlt:=hown.lt g' hob;have hcl:=hown.cells hob k (J q) (by simp[qrp,hq]);rw[add0] at hcl;exact⟨g',h0,fun e=>by have:=hG1 g' e;omega,hcl⟩
  ·rw[List.take_zero,yaK,ya0];exact(p7.below hb8).wide Plus.sub
 ·rintro X g cap ao k w8 ⟨hx,G,w80,ev',es',sv',hGX,hXl,hG2,hch,hch8,hcell,p8,hbx⟩;refine⟨(hch8.block X hXl hGX).trans hbx,fun q hq=>?_⟩;obtain⟨g',h1,h2,h3⟩:=hcell k q hq;exact⟨g',h1,(yq (a:=(aT g' k)) (hch8.block g' (yI w80 _ h3) h2)).trans h3⟩
 ·rintro X g cap ao k w8 q ⟨hx,G,w80,ev',es',sv',hGX,hXl,hG2,hch,hch8,hcell,p8,hbx⟩ hq;have hqn:=hmos k q hq;have hmem:(M,Value.slice (some ⟨g,0,none⟩) h.n cap)∈(l++[(M,Value.slice (some ⟨g,0,none⟩) h.n cap)]).filter (fun x=>notStable h.members (castKn h kn) x.1):=yM.2 ⟨by simp,hunst q hqn.1 hqn.2⟩;have hsl:(snt++(os.take k).map fun q=>par (Mo.dataF h.n h.num q (mp (castKn h kn) ((l.map Prod.fst++[M]).filter (notStable h.members (castKn h kn))) E) M)).length<=1000000:=by
   rw[yC,yL,yam];omega
  have hmap:((l++[(M,Value.slice (some ⟨g,0,none⟩) h.n cap)]).filter (fun x=>notStable h.members (castKn h kn) x.1)).map Prod.fst=(l.map Prod.fst++[M]).filter (notStable h.members (castKn h kn)):=by
   rw[qu,y8];rfl
  refine(qcv hc p8.clip (fun x hx=>hx.2) (hoM hx).row hsl q hqn.1 M (hfitM hx) _ _ _ (p8.time_nums hmem)).mono ?_;rintro e w9 ⟨rfl,hch9,sv9,p9⟩;rw[hmap] at p9;refine⟨rfl,hx,G,w80,ev',es',sv9,hGX,hXl,hG2,hch,hch8.trans (hch9.mono fun x _ hx=>hx.1),hcell,?_,hbx⟩;rw[yaM,hq];simp only[Option.toList_some,y8,yN,yaK];rw[<-yav];refine p9.wide fun x hx=>?_;rcases hx with hx|hx
  ·exact hx.1
  ·exact .inr (by have:=hch8.size;omega)
 ·rintro X g cap ao w9 ⟨hx,G,w80,ev',es',sv',hGX,hXl,hG2,hch,hch9,hcell,p9,hbx⟩;have hmap:((l++[(M,Value.slice (some ⟨g,0,none⟩) h.n cap)]).filter (fun x=>notStable h.members (castKn h kn) x.1)).map Prod.fst=(l.map Prod.fst++[M]).filter (notStable h.members (castKn h kn)):=by
   rw[qu,y8];rfl
  refine⟨hx,hch.trans (hch9.mono fun x _ hx=>hG2 x hx),?_⟩;rw[yaT] at p9;have:=p9.px;rw[hmap] at this;refine this.wide fun x hx=>?_;rcases hx with hx|hx
  ·exact hG2 x hx
  ·exact .inr (by have:=hch.size;omega)
 ·rintro e w' (⟨h1,h2⟩|⟨rfl,hx,h1,h2⟩)
  ·exact .inl ⟨h1,h2⟩
  ·exact .inr ⟨rfl,hx,h1,h2⟩
end
end Go.Proofs.YtoklolfaemhfnaaGreatDoor
