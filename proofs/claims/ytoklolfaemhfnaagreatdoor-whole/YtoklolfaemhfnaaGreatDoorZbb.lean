import Derived.Test.YtoklolfaemhfnaaGreatDoorZaz
set_option maxRecDepth 100000
set_option maxHeartbeats 8000000
namespace Go.Proofs.YtoklolfaemhfnaaGreatDoor.Mo
section
open Codec (Msg Frame)
theorem Learn.grows{n k j:Nat}{row:List Int}{p p':MP}(hL:Learn n k row p p'):Grows n j p p':=⟨fun q s hq hs=>by rw[hL.kn q s hq hs];split <;> omega⟩
theorem Hold.grows{n j:Nat}{m:Msg}{p p':MP}(hL:Hold n m p p'):Grows n j p p':=⟨fun q s hq hs=>by rw[hL.kn q s hq hs];omega⟩
theorem Grows.refl(n j:Nat)(p:MP):Grows n j p p:=⟨fun _ _ _ _=>Int.le_refl _⟩
theorem Grows.trans{n j:Nat}{p q r:MP}(h:Grows n j p q)(h':Grows n j q r):Grows n j p r:=⟨fun a b ha hb=>Int.le_trans (h.up a b ha hb) (h'.up a b ha hb)⟩
inductive Delivs (n j:Nat):MP->MP->Prop
 |none (p:MP):Delivs n j p p
 |more {p q r:MP} (m:Msg):Deliv n j m p q->Delivs n j q r->Delivs n j p r
def Stuck(n j:Nat)(p:MP):Prop:=∀m,¬Able n j p m
theorem Delivs.one{n j:Nat}{p p':MP}{G:List Msg}(hL:Delivs n j p p')(hg:Good n G)(h:One n G j p)(hj:j<n):One n G j p':=by
 induction hL with
 |none=>exact h
 |more m hd _ ih=>exact ih (hd.one hg h hj)
theorem Delivs.grows{n j:Nat}{p p':MP}(hL:Delivs n j p p'):Grows n j p p':=by
 induction hL with
 |none=>exact Grows.refl ..
 |more m hd _ ih=>exact hd.grows.trans ih
theorem Delivs.others{n j:Nat}{p p':MP}(hL:Delivs n j p p'):∀q s,q<n->s<n->q≠j->p'.kn q s=p.kn q s:=by
 induction hL with
 |none=>intros;rfl
 | more m hd _ ih =>
   intro q s hq hs hne;rw[ih q s hq hs hne,hd.kn q s hq hs,if_neg (fun e=>hne e.1)]
inductive Come (n j:Nat) (k:Nat) (f:Frame) (p p':MP):Prop
 |gossip:f.kind=2->Learn n k f.row p p'->Come n j k f p p'
 |data (m:Msg) (p1 p2:MP):f.kind=1->f.msgs=[m]->Learn n k f.row p p1->Hold n m p1 p2->Delivs n j p2 p'->Stuck n j p'->Come n j k f p p'
theorem Come.grows{n j k:Nat}{f:Frame}{p p':MP}(h:Come n j k f p p'):Grows n j p p':=by
 rcases h with ⟨-,h⟩|⟨m,p1,p2, -, -,h1,h2,h3, -⟩
 ·exact h.grows
 ·exact(h1.grows.trans h2.grows).trans h3.grows
theorem Come.one{n j k:Nat}{f:Frame}{p p':MP}{G:List Msg}(h:Come n j k f p p')(hg:Good n G)(ho:One n G j p)(hj:j<n)(hk:k≠j)(hf:∀m,f.msgs=[m]->m∈G):One n G j p':=by
 rcases h with ⟨-,h⟩|⟨m,p1,p2, -,hm,h1,h2,h3, -⟩
 ·exact h.one hg ho hj hk
 ·exact h3.one hg (h2.one hg (h1.one hg ho hj hk) hj (hf m hm)) hj
theorem Come.others{n j k:Nat}{f:Frame}{p p':MP}(h:Come n j k f p p'):∀q s,q<n->s<n->q≠j->p'.kn q s=if q=k then max (p.kn q s) (f.row.getD s 0) else p.kn q s:=by
 intro q s hq hs hne;rcases h with ⟨-,h⟩|⟨m,p1,p2, -, -,h1,h2,h3, -⟩
 ·exact h.kn q s hq hs
 ·rw[h3.others q s hq hs hne,h2.kn q s hq hs,h1.kn q s hq hs]
theorem MI.change{n:Nat}{G:List Msg}{P:Nat->MP}(h:MI n G P){j:Nat}{p:MP}(hj:j<n)(ho:One n G j p)(hg:Grows n j (P j) p)(hl:∀q s,q<n->s<n->q≠j->p.kn q s<=(P q).kn q s):MI n G (upd P j p):=by
 refine⟨h.good,fun i hi=>?_,fun i q s hi hq hs=>?_⟩
 ·by_cases e:i=j
  ·subst e;rw[upd_same];exact ho
  ·rw[upd_ne _ _ e];exact h.one i hi
 ·by_cases e:i=j
  ·subst e;rw[upd_same];by_cases e2:q=i
   ·subst e2;rw[upd_same];omega
   ·rw[upd_ne _ _ e2];exact hl q s hq hs e2
  ·rw[upd_ne _ _ e];by_cases e2:q=j
   ·subst e2;rw[upd_same];exact Int.le_trans (h.low i q s hi hq hs) (hg.up q s hq hs)
   ·rw[upd_ne _ _ e2];exact h.low i q s hi hq hs
theorem grows_upd{n:Nat}{P:Nat->MP}{j:Nat}{p:MP}(hg:Grows n j (P j) p):∀i,i<n->Grows n i (P i) (Mo.upd P j p i):=fun i hi=>by
 by_cases e:i=j
 ·subst e;rw[upd_same];exact⟨hg.up⟩
 ·rw[upd_ne _ _ e];exact Grows.refl ..
theorem MI.come{n:Nat}{G:List Msg}{P:Nat->MP}(h:MI n G P){f:Frame}(hf:Gen n G P f){j k:Nat}(hc:Calm n k j f){p:MP}(hp:Come n j k f (P j) p):MI n G (upd P j p):=by
 obtain⟨⟨k',j',c,hr⟩,hk⟩:=hf;have hkk:k'=k:=by have:=c.src.symm.trans hc.src;omega
 subst hkk;refine h.change hc.qn (hp.one h.good (h.one j hc.qn) hc.qn hc.ne fun m hm=>?_) hp.grows fun q s hq hs hne=>?_
 ·rcases hk with ⟨-,e⟩|⟨-,x,hx,e⟩
  ·rw[e] at hm;cases hm
  ·rw[e] at hm;cases hm;exact hx
 ·rw[hp.others q s hq hs hne];split
  ·rename_i e
   subst e;have h1:=h.low j q s hc.qn hq hs;have h2:=(hr s hs).2;omega
  ·exact h.low j q s hc.qn hq hs
structure Cast (n j:Nat) (m:Msg) (p p':MP):Prop where
 sender:m.sender=j
 seq:m.seq=p.kn j j+1
 room:p.kn j j<20
 len:m.time.length=n
 time:∀q,q<n->m.time.getD q 0=if q=j then p.kn j j+1 else p.kn j q
 text:m.text.size<=16
 kn:∀q s,q<n->s<n->p'.kn q s=if q=j/\s=j then p.kn j j+1 else p.kn q s
 held:∀x,x∈p'.held↔(x∈p.held\/x=m)/\uns n p'.kn x
 evs:p'.evs=p.evs++[⟨1,0,m.sender,m.seq,0,m.text⟩]
 apart:Apart (p.held++[m])->Apart p'.held
theorem Cast.grows{n j:Nat}{m:Msg}{p p':MP}(h:Cast n j m p p'):Grows n j p p':=⟨fun q s hq hs=>by
 rw[h.kn q s hq hs];split
 ·rename_i e;obtain⟨rfl,rfl⟩:=e;omega
 ·omega⟩
theorem MI.cast{n:Nat}{G:List Msg}{P:Nat->MP}(h:MI n G P)(hn:n<=6){j:Nat}(hj:j<n){m:Msg}{p:MP}(hp:Cast n j m (P j) p):MI n (G++[m]) (upd P j p):=by
 have ho:=h.one j hj;have hsn:sn m=j:=by simp[sn,hp.sender]
 have hm:IsMsg n G m:=by
  have hcl:∀q,q<n->0<=m.time.getD q 0/\m.time.getD q 0<=20:=fun q hq=>by
   rw[hp.time q hq];have h1:=ho.pos j q hj hq;have h2:=ho.row q hq;have h3:=h.good.cnt_le q;have h4:=ho.pos j j hj hj;have h5:=hp.room;split <;> omega
  refine⟨hsn▸hj,hsn▸hp.sender,?_,hp.len,?_,fun q hq hne=>?_,?_⟩
  ·rw[hsn,hp.seq,ho.own]
  ·rw[hsn,hp.time j hj,if_pos rfl,hp.seq]
  ·rw[hsn] at hne;refine⟨(hcl q hq).1,?_⟩;rw[hp.time q hq,if_neg hne];exact ho.row q hq
  ·have h4:=ho.pos j j hj hj;have h5:=hp.room;simp only[Codec.msgFits,Bool.and_eq_true,Codec.inB_iff,Codec.listFits,decide_eq_true_eq,List.all_eq_true];refine⟨⟨⟨?_,?_⟩,?_,fun x hx=>?_⟩,hp.text⟩
   ·rw[hp.sender];omega
   ·rw[hp.seq];omega
   ·rw[hp.len];exact hn
   ·obtain⟨q,hq,rfl⟩:=List.getElem_of_mem hx;have:=hcl q (hp.len▸hq);rw[List.getD_eq_getElem?_getD,List.getElem?_eq_getElem hq] at this;exact this
 have hgood:=h.good.snoc hm;have hnot:m ∉ G:=fun hx=>by
  have:=(h.good.le hx).2.1;rw[hsn,hp.seq,ho.own] at this;omega
 have cntj:∀s,cnt (G++[m]) s=if s=j then cnt G s+1 else cnt G s:=fun s=>by
  rw[qbr,qc7,qg6,hp.sender];by_cases e:s=j
  ·subst e;simp
  ·rw[if_neg e,if_neg (fun e2=>e (by omega))];omega
 have mono:∀q s,q<n->s<n->(P j).kn q s<=p.kn q s:=hp.grows.up;refine⟨hgood,fun i hi=>?_,fun i q s hi hq hs=>?_⟩
 ·by_cases e:i=j
  ·subst e;rw[upd_same];have split2:∀x∈G++[m],x.seq<=p.kn i (sn x)->(x∈G/\x.seq<=(P i).kn i (sn x))\/x=m:=fun x hx h1=>by
    rcases List.mem_append.1 hx with hx|hx
    ·refine .inl ⟨hx,?_⟩;have hl:=h.good.le hx;rw[hp.kn i _ hi hl.2.2.2.1] at h1;split at h1
     ·rename_i e
      rw[e.2,ho.own,<-e.2];exact hl.2.1
     ·exact h1
    ·exact .inr (List.mem_singleton.1 hx)
   refine⟨fun q s hq hs=>Int.le_trans (ho.pos q s hq hs) (mono q s hq hs),fun s hs=>?_,?_,fun x hx=>?_,fun x hx=>((hp.held x).1 hx).2,fun x hx h1 h2=>?_,fun e he=>?_,fun x hx h1=>?_,?_⟩
   ·rw[hp.kn i s hi hs,cntj];split
    ·rename_i e;obtain⟨-,rfl⟩:=e;rw[if_pos rfl,ho.own];omega
    ·rename_i e
     have:=ho.row s hs;split <;> omega
   ·rw[hp.kn i i hi hi,if_pos ⟨rfl,rfl⟩,cntj,if_pos rfl,ho.own]
   ·rcases ((hp.held x).1 hx).1 with h1|rfl
    ·simp[ho.sub x h1]
    ·simp
   ·refine(hp.held x).2 ⟨?_,h2⟩;rcases split2 x hx h1 with ⟨h3,h4⟩|rfl
    ·refine .inl (ho.all x h3 h4 ?_);obtain⟨q,hq,h5⟩:=h2;exact⟨q,hq,Int.lt_of_le_of_lt (mono q _ hq (h.good.le h3).2.2.2.1) h5⟩
    ·exact .inr rfl
   ·rw[hp.evs,List.mem_append] at he;rcases he with he|he
    ·obtain⟨x,hx,h1,h2⟩:=ho.ev1 e he;exact⟨x,by simp[hx],Int.le_trans h1 (mono i _ hi (h.good.le hx).2.2.2.1),h2⟩
    ·rw[List.mem_singleton] at he;subst he;refine⟨m,by simp,?_,⟨.inl rfl,rfl,rfl,rfl,rfl⟩⟩;rw[hsn,hp.kn i i hi hi,if_pos ⟨rfl,rfl⟩,hp.seq];omega
   ·rw[hp.evs];rcases split2 x hx h1 with ⟨h3,h4⟩|rfl
    ·obtain⟨e,he,h5⟩:=ho.ev2 x h3 h4;exact⟨e,by simp[he],h5⟩
    ·exact⟨⟨1,0,x.sender,x.seq,0,x.text⟩,by simp,⟨.inl rfl,rfl,rfl,rfl,rfl⟩⟩
   ·refine hp.apart (List.pairwise_append.2 ⟨ho.apart,by simp,fun x hx y hy hxy=>?_⟩);rw[List.mem_singleton] at hy;subst hy;have:=hgood.uniq (x:=x) (y:=y) (by simp[ho.sub x hx]) (by simp) hxy.1 hxy.2;exact hnot (this▸ho.sub x hx)
  ·rw[upd_ne _ _ e];have hi':=h.one i hi;have nm:¬m.seq<=(P i).kn i (sn m):=fun h1=>by
    have h2:=hi'.row j hj;rw[hsn,hp.seq,ho.own] at h1;omega
   refine⟨hi'.pos,fun s hs=>?_,?_,fun x hx=>by simp[hi'.sub x hx],hi'.uns,fun x hx h1 h2=>?_,fun e he=>?_,fun x hx h1=>?_,hi'.apart⟩
   ·have:=hi'.row s hs;rw[cntj];split <;> omega
   ·rw[cntj,if_neg e,hi'.own]
   ·rcases List.mem_append.1 hx with hx|hx
    ·exact hi'.all x hx h1 h2
    ·rw[List.mem_singleton] at hx;subst hx;exact absurd h1 nm
   ·obtain⟨x,hx,h1,h2⟩:=hi'.ev1 e he;exact⟨x,by simp[hx],h1,h2⟩
   ·rcases List.mem_append.1 hx with hx|hx
    ·exact hi'.ev2 x hx h1
    ·rw[List.mem_singleton] at hx;subst hx;exact absurd h1 nm
 ·by_cases e:i=j
  ·subst e;rw[upd_same];by_cases e2:q=i
   ·subst e2;rw[upd_same];omega
   ·rw[upd_ne _ _ e2,hp.kn q s hq hs,if_neg (fun e3=>e2 e3.1)];exact h.low i q s hi hq hs
  ·rw[upd_ne _ _ e];by_cases e2:q=j
   ·subst e2;rw[upd_same];exact Int.le_trans (h.low i q s hi hq hs) (mono q s hq hs)
   ·rw[upd_ne _ _ e2];exact h.low i q s hi hq hs
def rowL(n j:Nat)(p:MP):List Int:=(List.range n).map (p.kn j)
theorem qjp{n j:Nat}{p:MP}{s:Nat}(hs:s<n):(rowL n j p).getD s 0=p.kn j s:=by simp[rowL,hs]
def gossipF(n j q:Nat)(p:MP):Frame:=⟨2,j,q,0,0,0,0,rowL n j p,[],[]⟩
def dataF(n j q:Nat)(p:MP)(m:Msg):Frame:=⟨1,j,q,0,0,0,0,rowL n j p,[],[m]⟩
theorem gen_gossip{n:Nat}{G:List Msg}{P:Nat->MP}(h:MI n G P){j q:Nat}(hj:j<n)(hq:q<n)(hne:j≠q):Gen n G P (gossipF n j q (P j)):=
 ⟨⟨j, q, ⟨hne, hj, hq, rfl, rfl, rfl, rfl, rfl, rfl, rfl, by simp [gossipF, rowL]⟩, fun s hs => by
   simp only[gossipF,qjp hs];exact⟨(h.one j hj).pos j s hj hs,Int.le_refl _⟩⟩,.inl ⟨rfl,rfl⟩⟩
theorem gen_data{n:Nat}{G:List Msg}{P:Nat->MP}(h:MI n G P){j q:Nat}(hj:j<n)(hq:q<n)(hne:j≠q){m:Msg}(hm:m∈G):Gen n G P (dataF n j q (P j) m):=
 ⟨⟨j, q, ⟨hne, hj, hq, rfl, rfl, rfl, rfl, rfl, rfl, rfl, by simp [dataF, rowL]⟩, fun s hs => by
   simp only[dataF,qjp hs];exact⟨(h.one j hj).pos j s hj hs,Int.le_refl _⟩⟩,.inr ⟨rfl,m,hm,rfl⟩⟩
theorem Gen.fits{n:Nat}{G:List Msg}{P:Nat->MP}{f:Frame}(h:Gen n G P f)(hi:MI n G P)(hn:n<=6):Codec.fits f=true:=by
 obtain⟨⟨j,q,c,hr⟩,hk⟩:=h;have hrow:Codec.listFits f.row=true:=by
  simp only[Codec.listFits,Bool.and_eq_true,decide_eq_true_eq,List.all_eq_true,Codec.inB_iff];refine⟨by rw[c.len];exact hn,fun x hx=>?_⟩;obtain⟨s,hs,rfl⟩:=List.getElem_of_mem hx;have hs':s<n:=c.len▸hs;have h1:=hr s hs';rw[List.getD_eq_getElem?_getD,List.getElem?_eq_getElem hs] at h1;have h2:=(hi.one j c.jn).row s hs';have h3:=hi.good.cnt_le s;simp only[Option.getD_some] at h1;omega
 have hm:Codec.msgsFit f.msgs=true:=by
  rcases hk with ⟨-,e⟩|⟨-,m,hm,e⟩
  ·rw[e];rfl
  ·obtain⟨A,B, -,g⟩:=hi.good.mem hm;rw[e];simp[Codec.msgsFit,g.fits]
 have hj:=c.jn;have hq:=c.qn;have hkk:1<=f.kind/\f.kind<=7:=by rcases hk with ⟨e, -⟩|⟨e, -⟩ <;> rw[e] <;> decide
 have hcut:Codec.listFits f.cut=true:=by rw[c.cut];rfl
 simp only[Codec.fits,Codec.headFits,Codec.ballotsFit,Bool.and_eq_true,Codec.inB_iff,hrow,hcut,hm,c.src,c.dst,c.members,c.view,c.ballot,c.voted,and_true];refine⟨⟨⟨⟨hkk,?_⟩,?_⟩,?_⟩,?_⟩ <;> omega
inductive Comes (n j:Nat):List Frame->MP->MP->Prop
 |nil (p:MP):Comes n j [] p p
 |cons {f:Frame}{l:List Frame}{p q r:MP} (k:Nat):Calm n k j f->Come n j k f p q->Comes n j l q r->Comes n j (f::l) p r
structure Outs (n j:Nat) (p:MP) (out:List Frame):Prop where
 gos:∀q,q<n->q≠j->gossipF n j q p∈out
 dat:∀q,q<n->q≠j->∀m∈p.held,p.kn q (sn m)<m.seq->dataF n j q p m∈out
 only:∀f∈out,∃q,q<n/\q≠j/\(f=gossipF n j q p\/∃m∈p.held,f=dataF n j q p m)
 len:out.length<=(n - 1) * (1+p.held.length)
theorem qqi(P:Nat->MP)(j:Nat)(p q:MP):upd (upd P j p) j q=upd P j q:=funext fun i=>by
 unfold upd;split <;> rfl
theorem qov(P:Nat->MP)(j:Nat):upd P j (P j)=P:=funext fun i=>by
 unfold upd;split
 ·rename_i e;rw[e]
 ·rfl
theorem Comes.grows{n j:Nat}{l:List Frame}{p p':MP}(h:Comes n j l p p'):Grows n j p p':=by
 induction h with
 |nil=>exact Grows.refl ..
 |cons k _ hc _ ih=>exact hc.grows.trans ih
theorem MI.comes{n:Nat}{G:List Msg}{j:Nat}{l:List Frame}{p p':MP}(h:Comes n j l p p'):∀{P:Nat->MP},P j=p->MI n G P->(∀f∈l,Gen n G P f)->MI n G (upd P j p'):=by
 induction h with
 | nil p =>
   intro P e hi _;rw[<-e,qov];exact hi
 | cons k hc hcome _ ih =>
   intro P e hi hf;subst e;have h1:=hi.come (hf _ (by simp)) hc hcome;have h2:=ih (upd_same ..) h1 fun f hfl=>(hf f (by simp[hfl])).grows (fun _ h=>h) (grows_upd hcome.grows);rw[qqi] at h2;exact h2
theorem MI.congr{n:Nat}{G:List Msg}{P P':Nat->MP}(h:MI n G P)(e:∀i,i<n->P' i=P i):MI n G P':=
 ⟨h.good,fun j hj=>e j hj▸h.one j hj,fun j q s hj hq hs=>by rw[e j hj,e q hq];exact h.low j q s hj hq hs⟩
structure Turn (n:Nat) (P P':Nat->MP) (FL FL':List Frame) (outs:Nat->List Frame):Prop where
 come:∀j,j<n->Comes n j (FL.filter fun f=>f.dst == (j:Int)) (P j) (P' j)
 out:∀j,j<n->Outs n j (P' j) (outs j)
 fl:FL'=(List.range n).flatMap outs
theorem Turn.inv{n:Nat}{G:List Msg}{P P':Nat->MP}{FL FL':List Frame}{outs:Nat->List Frame}(h:Turn n P P' FL FL' outs)(hi:MI n G P)(hf:∀f∈FL,Gen n G P f):MI n G P'/\∀f∈FL',Gen n G P' f:=by
 have step:∀k,k<=n->MI n G (fun i=>if i<k then P' i else P i):=by
  intro k;induction k with
  |zero=>intro _;exact hi.congr fun i _=>by simp
  | succ k ih =>
    intro hk;have h1:=ih (by omega);have h2:=MI.comes (h.come k (by omega)) (P:=fun i=>if i<k then P' i else P i) (by simp) h1 fun f hfl=>(hf f (List.mem_filter.1 hfl).1).grows (fun _ h=>h) fun i hi'=>by
     by_cases e:i<k
     ·simp only[if_pos e];exact(h.come i hi').grows
     ·simp only[if_neg e];exact Grows.refl ..
    refine h2.congr fun i _=>?_;unfold upd;by_cases e:i=k
    ·subst e;simp
    ·rw[if_neg e];by_cases e2:i<k
     ·simp only[if_pos e2];rw[if_pos (by omega)]
     ·simp only[if_neg e2];rw[if_neg (by omega)]
 have hI:MI n G P':=(step n (Nat.le_refl n)).congr fun i hi'=>by simp[hi']
 refine⟨hI,fun f hfl=>?_⟩;rw[h.fl,List.mem_flatMap] at hfl;obtain⟨j,hj,hfo⟩:=hfl;have hj:=List.mem_range.1 hj;obtain⟨q,hq,hne,rfl|⟨m,hm,rfl⟩⟩:=(h.out j hj).only f hfo
 ·exact gen_gossip hI hj hq (Ne.symm hne)
 ·exact gen_data hI hj hq (Ne.symm hne) ((hI.one j hj).sub m hm)
def Told(n:Nat)(P:Nat->MP)(FL:List Frame):Prop:=∀j,j<n->∀q,q<n->q≠j->gossipF n j q (P j)∈FL/\∀m∈(P j).held,(P j).kn q (sn m)<m.seq->dataF n j q (P j) m∈FL
theorem Turn.told{n:Nat}{P P':Nat->MP}{FL FL':List Frame}{outs:Nat->List Frame}(h:Turn n P P' FL FL' outs):Told n P' FL':=fun j hj q hq hne=>by
 have hin:∀f∈outs j,f∈FL':=fun f hf=>by rw[h.fl];exact List.mem_flatMap.2 ⟨j,List.mem_range.2 hj,hf⟩
 exact⟨hin _ ((h.out j hj).gos q hq hne),fun m hm h1=>hin _ ((h.out j hj).dat q hq hne m hm h1)⟩
theorem full{n j:Nat}{G:List Msg}{p:MP}(hj:j<n)(hg:Good n G)(h:One n G j p)(hst:Stuck n j p)(hh:∀m∈G,p.kn j (sn m)<m.seq->m∈p.held):∀s,s<n->p.kn j s=cnt G s:=by
 have key:∀z,∀A B:List Msg,A.length=z->G=A++B->∀s,s<n->cnt A s<=p.kn j s:=by
  intro z;induction z with
  | zero =>
    intro A B hl e s hs;have:A=[]:=List.length_eq_zero_iff.1 hl;subst this;exact h.pos j s hj hs
  | succ z ih =>
    intro A B hl e s hs;rcases List.eq_nil_or_concat A with rfl|⟨A',m,rfl⟩
    ·cases hl
    ·simp only[List.concat_eq_append,List.length_append,List.length_cons,List.length_nil] at *;have e':G=A'++m::B:=by rw[e];simp
     have hm:=hg A' m B e';have hmG:m∈G:=by rw[e'];simp
     have pre:∀q,q<n->cnt A' q<=p.kn j q:=fun q hq=>ih A' (m::B) (by omega) e' q hq;rw[qbr,qc7,qg6];by_cases e2:m.sender=(s:Int)
     ·have hsn:sn m=s:=by simp[sn,e2]
      rw[if_pos e2];have h1:=pre s hs;have h2:=hm.seq;rw[hsn] at h2;by_cases h3:p.kn j (sn m)<m.seq
      ·refine absurd ⟨hh m hmG h3,?_,fun q hq hne=>Int.le_trans (hm.time q hq hne).2 (pre q hq)⟩ (hst m);rw[hsn] at h3 ⊢;omega
      ·rw[hsn] at h3;omega
     ·rw[if_neg e2];have:=pre s hs;omega
 intro s hs;have h1:=key G.length G [] rfl (by simp) s hs;have h2:=h.row s hs;omega
theorem qqj{n j:Nat}{G:List Msg}{p:MP}(hj:j<n)(hg:Good n G)(h:One n G j p)(hall:∀m∈G,m.seq<=p.kn j (sn m)):∀s,s<n->p.kn j s=cnt G s:=fun s hs=>by
 have h1:=h.row s hs;have h0:=h.pos j s hj hs;by_cases hc:cnt G s<=0
 ·omega
 ·obtain⟨m,hm,h2,h3⟩:=hg.exists s (cnt G s) (by omega) (by omega);have hsn:sn m=s:=by simp[sn,h2]
  have:=hall m hm;rw[hsn,h3] at this;omega
theorem Learn.stuck{n k j:Nat}{row:List Int}{p p':MP}(h:Learn n k row p p')(hj:j<n)(hk:k≠j)(hG:∀m∈p.held,sn m<n)(hs:Stuck n j p):Stuck n j p':=fun m a=>by
 have hm:=((h.held m).1 a.mem).1;have own:∀s,s<n->p'.kn j s=p.kn j s:=fun s hs=>by rw[h.kn j s hj hs,if_neg (Ne.symm hk)]
 exact hs m ⟨hm,own _ (hG m hm)▸a.next,fun q hq hne=>own q hq▸a.seen q hq hne⟩
theorem Comes.stuck{n j:Nat}{G:List Msg}{l:List Frame}{p p':MP}(hj:j<n)(hg:Good n G)(h:Comes n j l p p'):One n G j p->(∀f∈l,∀m,f.msgs=[m]->m∈G)->(Stuck n j p\/∃f∈l,f.kind=1)->Stuck n j p':=by
 induction h with
 | nil p =>
   rintro - - (h|⟨f,hf, -⟩)
   ·exact h
   ·cases hf
 | @cons f l p q r k hc hcome _ ih =>
   intro ho hf hor;have h1:=hcome.one hg ho hj hc.ne (hf f (by simp));refine ih h1 (fun f' hf'=>hf f' (by simp[hf'])) ?_;rcases hcome with ⟨hk,hl⟩|⟨m,p1,p2,hk,hm,h1,h2,h3,h4⟩
   ·rcases hor with hs|⟨f',hf',hk'⟩
    ·exact .inl (hl.stuck hj hc.ne (fun m hm=>(hg.le (ho.sub m hm)).2.2.2.1) hs)
    ·rcases List.mem_cons.1 hf' with rfl|hf'
     ·rw[hk] at hk';cases hk'
     ·exact .inr ⟨f',hf',hk'⟩
   ·exact .inl h4
def Got(j:Nat)(p:MP)(m:Msg):Prop:=m.seq<=p.kn j (sn m)\/m∈p.held
theorem Learn.got{n k j:Nat}{row:List Int}{p p':MP}(h:Learn n k row p p')(hj:j<n){m:Msg}(hm:sn m<n)(hg:Got j p m):Got j p' m:=by
 have up:=(h.grows (j:=j)).up j (sn m) hj hm;by_cases h1:m.seq<=p'.kn j (sn m)
 ·exact .inl h1
 ·rcases hg with hg|hg
  ·exact .inl (Int.le_trans hg up)
  ·exact .inr ((h.held m).2 ⟨hg,j,hj,by omega⟩)
theorem Hold.got{n j:Nat}{x:Msg}{p p':MP}(h:Hold n x p p')(hj:j<n){m:Msg}(hm:sn m<n)(hg:Got j p m):Got j p' m:=by
 rcases hg with hg|hg
 ·exact .inl (by rw[h.kn j _ hj hm];exact hg)
 ·exact .inr ((h.held m).2 (.inl hg))
theorem Hold.gets{n j:Nat}{G:List Msg}{m:Msg}{p p':MP}(h:Hold n m p p')(hj:j<n)(hg:Good n G)(ho:One n G j p)(hm:m∈G):Got j p' m:=by
 have hl:=hg.le hm;by_cases h1:m.seq<=p.kn j (sn m)
 ·exact .inl (by rw[h.kn j _ hj hl.2.2.2.1];exact h1)
 ·refine .inr ((h.held m).2 ?_);by_cases h2:∃y∈p.held,y.sender=m.sender/\y.seq=m.seq
  ·obtain⟨y,hy,h3,h4⟩:=h2;have:=hg.uniq (ho.sub y hy) hm h3 h4;exact .inl (this▸hy)
  ·exact .inr ⟨rfl,⟨j,hj,by omega⟩,fun y hy e=>h2 ⟨y,hy,e⟩⟩
theorem Delivs.got{n j:Nat}{p p':MP}(h:Delivs n j p p')(hj:j<n){m:Msg}(hm:sn m<n):Got j p m->Got j p' m:=by
 induction h with
 |none=>exact id
 | more x hd _ ih =>
   intro hg;refine ih ?_;have up:=hd.grows.up j (sn m) hj hm;rcases hg with hg|hg
   ·exact .inl (Int.le_trans hg up)
   ·rename_i p q r _
    by_cases h1:m.seq<=q.kn j (sn m)
    ·exact .inl h1
    ·exact .inr ((hd.held m).2 ⟨hg,j,hj,by omega⟩)
theorem Comes.got{n j:Nat}{G:List Msg}{l:List Frame}{p p':MP}(hj:j<n)(hg:Good n G)(h:Comes n j l p p'){m:Msg}(hm:m∈G):One n G j p->(∀f∈l,∀m,f.msgs=[m]->m∈G)->(Got j p m\/∃f∈l,f.kind=1/\f.msgs=[m])->Got j p' m:=by
 have hl:=(hg.le hm).2.2.2.1;induction h with
 | nil p =>
   rintro - - (h|⟨f,hf, -⟩)
   ·exact h
   ·cases hf
 | @cons f l p q r k hc hcome _ ih =>
   intro ho hf hor;refine ih (hcome.one hg ho hj hc.ne (hf f (by simp))) (fun f' hf'=>hf f' (by simp[hf'])) ?_;rcases hcome with ⟨hk,hle⟩|⟨x,p1,p2,hk,hx,h1,h2,h3,h4⟩
   ·rcases hor with hs|⟨f',hf',hk'⟩
    ·exact .inl (hle.got hj hl hs)
    ·rcases List.mem_cons.1 hf' with rfl|hf'
     ·rw[hk] at hk';cases hk'.1
     ·exact .inr ⟨f',hf',hk'⟩
   ·rcases hor with hs|⟨f',hf',hk'⟩
    ·exact .inl (h3.got hj hl (h2.got hj hl (h1.got hj hl hs)))
    ·rcases List.mem_cons.1 hf' with rfl|hf'
     ·have e:=hx.symm.trans hk'.2;injection e with e;subst e;exact .inl (h3.got hj hl (h2.gets hj hg (h1.one hg ho hj hc.ne) hm))
     ·exact .inr ⟨f',hf',hk'⟩
theorem Comes.learnt{n j:Nat}{l:List Frame}{p p':MP}(h:Comes n j l p p'){f:Frame}{k:Nat}(hf:f∈l)(hc:Calm n k j f):∀s,s<n->f.row.getD s 0<=p'.kn k s:=by
 induction h with
 |nil p=>cases hf
 | @cons f' l p q r k' hc' hcome hrest ih =>
   intro s hs;rcases List.mem_cons.1 hf with rfl|hf
   ·have hkk:k'=k:=by have:=hc'.src.symm.trans hc.src;omega
    subst hkk;have h1:=hcome.others k' s hc.jn hs hc.ne;have h2:=hrest.grows.up k' s hc.jn hs;rw[if_pos rfl] at h1;omega
   ·exact ih hf s hs
def Fulls(n:Nat)(G:List Msg)(P:Nat->MP):Prop:=∀j,j<n->∀s,s<n->(P j).kn j s=cnt G s
def Settled(n:Nat)(G:List Msg)(P:Nat->MP):Prop:=∀j,j<n->∀q,q<n->∀s,s<n->(P j).kn q s=cnt G s
theorem Gen.inG{n:Nat}{G:List Msg}{P:Nat->MP}{f:Frame}(h:Gen n G P f):∀m,f.msgs=[m]->m∈G:=fun m hm=>by
 rcases h.kind with ⟨-,e⟩|⟨-,x,hx,e⟩
 ·rw[e] at hm;cases hm
 ·rw[e] at hm;cases hm;exact hx
theorem Turn.fulls{n:Nat}{G:List Msg}{P P':Nat->MP}{FL FL':List Frame}{outs:Nat->List Frame}(h:Turn n P P' FL FL' outs)(hi:MI n G P)(hf:∀f∈FL,Gen n G P f)(ht:Told n P FL):Fulls n G P':=by
 intro j hj;have hI:=(h.inv hi hf).1;have ho:=hI.one j hj;have hc:=h.come j hj;have hfl:∀f∈FL.filter (fun f=>f.dst == (j:Int)),∀m,f.msgs=[m]->m∈G:=fun f hf'=>(hf f (List.mem_filter.1 hf').1).inG;have data:∀m∈G,(P' j).kn j (sn m)<m.seq->∃f∈FL.filter (fun f=>f.dst == (j:Int)),f.kind=1/\f.msgs=[m]:=fun m hm h1=>by
  have hl:=hi.good.le hm;have up:=hc.grows.up j (sn m) hj hl.2.2.2.1;have hne:j≠sn m:=fun e=>by
   have h2:=(hi.one j hj).own;have h3:=hl.2.1;rw[<-e] at h1 up h3;omega
  have hs:=hi.one (sn m) hl.2.2.2.1;have hlow:=hi.low (sn m) j (sn m) hl.2.2.2.1 hj hl.2.2.2.1;have hlt:(P (sn m)).kn j (sn m)<m.seq:=by omega
  have hheld:=hs.all m hm (by rw[hs.own];exact hl.2.1) ⟨j,hj,hlt⟩;exact⟨_,List.mem_filter.2 ⟨(ht (sn m) hl.2.2.2.1 j hj hne).2 m hheld hlt,by simp[dataF]⟩,rfl,rfl⟩
 by_cases hall:∀m∈G,m.seq<=(P' j).kn j (sn m)
 ·exact qqj hj hi.good ho hall
 ·have ⟨m0,h0⟩:=Classical.not_forall.1 hall;have ⟨hm0,h1⟩:=Classical.not_imp.1 h0;obtain⟨f,hfm,hk, -⟩:=data m0 hm0 (by omega);have hst:=hc.stuck hj hi.good (hi.one j hj) hfl (.inr ⟨f,hfm,hk⟩);refine full hj hi.good ho hst fun m hm h2=>?_;rcases hc.got hj hi.good hm (hi.one j hj) hfl (.inr (data m hm h2)) with h3|h3
  ·omega
  ·exact h3
theorem Turn.settled{n:Nat}{G:List Msg}{P P':Nat->MP}{FL FL':List Frame}{outs:Nat->List Frame}(h:Turn n P P' FL FL' outs)(hi:MI n G P)(hf:∀f∈FL,Gen n G P f)(ht:Told n P FL)(hfu:Fulls n G P):Settled n G P':=by
 intro j hj q hq s hs;have hI:=(h.inv hi hf).1;have h1:=hI.low j q s hj hq hs;have h2:=(hI.one q hq).row s hs;by_cases e:q=j
 ·subst e;have h3:=(h.come q hq).grows.up q s hq hs;have h4:=hfu q hq s hs;omega
 ·have hg:=(ht q hq j hj (Ne.symm e)).1;have h3:=(h.come j hj).learnt (List.mem_filter.2 ⟨hg,by simp[gossipF]⟩) ⟨e,hq,hj,rfl,rfl,rfl,rfl,rfl,rfl,rfl,by simp[gossipF,rowL]⟩ s hs;simp only[gossipF,qjp hs] at h3;have h4:=hfu q hq s hs;omega
theorem Turn.settled_again{n:Nat}{G:List Msg}{P P':Nat->MP}{FL FL':List Frame}{outs:Nat->List Frame}(h:Turn n P P' FL FL' outs)(hi:MI n G P)(hf:∀f∈FL,Gen n G P f)(hs:Settled n G P):Settled n G P':=by
 intro j hj q hq s hs';have hI:=(h.inv hi hf).1;have h1:=hI.low j q s hj hq hs';have h2:=(hI.one q hq).row s hs';have h3:=(h.come j hj).grows.up q s hq hs';have h4:=hs j hj q hq s hs';omega
theorem Settled.held{n:Nat}{G:List Msg}{P:Nat->MP}(h:Settled n G P)(hi:MI n G P){j:Nat}(hj:j<n):(P j).held=[]:=by
 apply List.eq_nil_iff_forall_not_mem.2;intro m hm;obtain⟨q,hq,h1⟩:=(hi.one j hj).uns m hm;have hl:=hi.good.le ((hi.one j hj).sub m hm);have:=h j hj q hq (sn m) hl.2.2.2.1;omega
theorem Settled.within{n:Nat}{G:List Msg}{P:Nat->MP}(h:Settled n G P)(hi:MI n G P){a b:Nat}(ha:a<n)(hb:b<n){e:Ev}(he:e∈(P a).evs):(∃e'∈(P b).evs,e'.src=e.src/\e'.seq=e.seq)/\∀e'∈(P b).evs,e'.src=e.src->e'.seq=e.seq->e'.text=e.text:=by
 obtain⟨m,hm,h1,h2⟩:=(hi.one a ha).ev1 e he;constructor
 ·have hl:=hi.good.le hm;obtain⟨e',he',h3⟩:=(hi.one b hb).ev2 m hm (by rw[h b hb b hb _ hl.2.2.2.1];exact hl.2.1);exact⟨e',he',h3.src.trans h2.src.symm,h3.seq.trans h2.seq.symm⟩
 ·intro e' he' h3 h4;obtain⟨m',hm',h5,h6⟩:=(hi.one b hb).ev1 e' he';have:=hi.good.uniq hm' hm (h6.src.symm.trans (h3.trans h2.src)) (h6.seq.symm.trans (h4.trans h2.seq));rw[h6.text,h2.text,this]
theorem nodup_le:∀(k:Nat) (l:List Nat),l.Nodup->(∀x∈l,x<k)->l.length<=k
 | 0, l, _, h => by
   cases l with
   |nil=>simp
   |cons x l=>exact absurd (h x (by simp)) (by omega)
 | k + 1, l, hn, h => by
   by_cases hk:k∈l
   ·have h1:=nodup_le k (l.erase k) (hn.erase k) fun x hx=>by
     have h2:=(hn.mem_erase_iff).1 hx;have h3:=h x h2.2;have h4:=h2.1;omega
    rw[List.length_erase_of_mem hk] at h1;omega
   ·have:=nodup_le k l hn fun x hx=>by
     have h3:=h x hx;by_cases e:x=k
     ·exact absurd (e▸hx) hk
     ·omega
    omega
theorem qqk{n:Nat}{G:List Msg}{j:Nat}{p:MP}(hg:Good n G)(hn:n<=6)(h:One n G j p):p.held.length<=120:=by
 have h1:(p.held.map fun m=>sn m * 20+(m.seq - 1).toNat).Nodup:=by
  have:∀l:List Msg,(∀m∈l,m∈G)->Apart l->(l.map fun m=>sn m * 20+(m.seq - 1).toNat).Nodup:=by
   intro l;induction l with
   |nil=>intros;simp
   | cons x l ih =>
     intro hs ha;have ha':=List.pairwise_cons.1 ha;rw[List.map_cons,List.nodup_cons];refine⟨fun hx=>?_,ih (fun m hm=>hs m (by simp[hm])) ha'.2⟩;obtain⟨y,hy,e⟩:=List.mem_map.1 hx;have hx1:=hg.le (hs x (by simp));have hy1:=hg.le (hs y (by simp[hy]));have h2:sn x=sn y:=by omega
     have h3:x.seq=y.seq:=by omega
     exact ha'.1 y hy ⟨by rw[hx1.2.2.2.2,hy1.2.2.2.2,h2],h3⟩
  exact this p.held h.sub h.apart
 have h2:=nodup_le 120 _ h1 fun x hx=>by
  obtain⟨m,hm,rfl⟩:=List.mem_map.1 hx;have:=hg.le (h.sub m hm);omega
 simpa using h2
theorem Outs.len_le{n:Nat}{G:List Msg}{j:Nat}{p:MP}{out:List Frame}(ho:Outs n j p out)(hg:Good n G)(hn:n<=6)(h:One n G j p):out.length<=605:=by
 have h1:=qqk hg hn h;have h2:=ho.len;have:(n - 1) * (1+p.held.length)<=5 * 121:=Nat.mul_le_mul (by omega) (by omega);omega
end
end Go.Proofs.YtoklolfaemhfnaaGreatDoor.Mo
