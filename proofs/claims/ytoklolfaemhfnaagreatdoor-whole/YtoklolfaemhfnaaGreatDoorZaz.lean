import Derived.Test.YtoklolfaemhfnaaGreatDoorZap
set_option maxRecDepth 100000
set_option maxHeartbeats 8000000
section
namespace Go.Proofs.YtoklolfaemhfnaaGreatDoor
structure Ev where
 kind:Int
 view:Int
 src:Int
 seq:Int
 members:Int
 text:ByteArray
namespace Mo
open Codec (Msg Frame)
structure MP where
 kn:Nat->Nat->Int
 held:List Msg
 evs:List Ev
def sn(m:Msg):Nat:=m.sender.toNat
def cnt(G:List Msg)(s:Nat):Int:=((G.filter fun m=>m.sender == (s:Int)).length:Nat)
theorem qg6(s:Nat):cnt [] s=0:=rfl
theorem qbr(A B:List Msg)(s:Nat):cnt (A++B) s=cnt A s+cnt B s:=by simp[cnt]
theorem qc7(m:Msg)(B:List Msg)(s:Nat):cnt (m::B) s=(if m.sender=(s:Int) then 1 else 0)+cnt B s:=by
 unfold cnt;by_cases h:m.sender=(s:Int)
 ·simp[h];omega
 ·simp[h]
theorem qpy(G:List Msg)(s:Nat):0<=cnt G s:=by simp[cnt]
structure IsMsg (n:Nat) (A:List Msg) (m:Msg):Prop where
 lt:sn m<n
 sender:m.sender=(sn m:Int)
 seq:m.seq=cnt A (sn m)+1
 len:m.time.length=n
 own:m.time.getD (sn m) 0=m.seq
 time:∀q,q<n->q≠sn m->0<=m.time.getD q 0/\m.time.getD q 0<=cnt A q
 fits:Codec.msgFits m=true
def Good(n:Nat)(G:List Msg):Prop:=∀(A:List Msg) (m:Msg) (B:List Msg),G=A++m::B->IsMsg n A m
theorem Good.snoc{n:Nat}{G:List Msg}(h:Good n G){m:Msg}(hm:IsMsg n G m):Good n (G++[m]):=by
 intro A x B e;rcases List.eq_nil_or_concat B with rfl|⟨B',y,rfl⟩
 ·have:=List.append_inj' e rfl;obtain⟨rfl,h2⟩:=this;injection h2 with h2;exact h2▸hm
 ·have e':G++[m]=(A++x::B')++[y]:=by simp[e]
  have:=List.append_inj' e' rfl;exact h A x B' this.1
theorem Good.mem{n:Nat}{G:List Msg}(h:Good n G){m:Msg}(hm:m∈G):∃A B,G=A++m::B/\IsMsg n A m:=by
 obtain⟨A,B,e⟩:=List.append_of_mem hm;exact⟨A,B,e,h A m B e⟩
theorem Good.le{n:Nat}{G:List Msg}(h:Good n G){m:Msg}(hm:m∈G):1<=m.seq/\m.seq<=cnt G (sn m)/\m.seq<=20/\sn m<n/\m.sender=(sn m:Int):=by
 obtain⟨A,B,e,g⟩:=h.mem hm;have f:=g.fits;simp only[Codec.msgFits,Bool.and_eq_true,Codec.inB_iff] at f;refine⟨f.1.1.2.1,?_,f.1.1.2.2,g.lt,g.sender⟩;rw[g.seq,e,qbr,qc7,if_pos g.sender];have:=qpy B (sn m);omega
theorem Good.uniq{n:Nat}{G:List Msg}(h:Good n G){x y:Msg}(hx:x∈G)(hy:y∈G)(hs:x.sender=y.sender)(hq:x.seq=y.seq):x=y:=by
 obtain⟨A,B,e,g⟩:=h.mem hx;obtain⟨A',B',e',g'⟩:=h.mem hy;have hsn:sn x=sn y:=by simp[sn,hs]
 rw[g.seq,g'.seq,hsn] at hq;have hq:cnt A (sn y)=cnt A' (sn y):=by omega
 have key:∀{A B A' B':List Msg}{x y:Msg},A++x::B=A'++y::B'->A.length<A'.length->y.sender=(sn y:Int)->x.sender=y.sender->cnt A (sn y)<cnt A' (sn y):=by
  intro A B A' B' x y e hl hy hxy;obtain⟨C,hC⟩:∃C,A'=A++x::C:=by
   have h1:A <+: A'++y::B':=e▸⟨x::B,rfl⟩;have h2:(A++[x]) <+: A'++y::B':=e▸⟨B,by simp⟩;have:=List.prefix_of_prefix_length_le h2 (List.prefix_append A' (y::B')) (by simp;omega);obtain⟨C,hC⟩:=this;exact⟨C,by rw[<-hC];simp⟩
  rw[hC,qbr,qc7,if_pos (hxy.trans hy)];have:=qpy C (sn y);omega
 rcases Nat.lt_trichotomy A.length A'.length with hl|hl|hl
 ·have:=key (e.symm.trans e') hl g'.sender hs;omega
 ·have:=List.append_inj (e.symm.trans e') hl;injection this.2
 ·have:=key (e'.symm.trans e) hl g.sender hs.symm;rw[hsn] at this;omega
theorem Good.exists{n:Nat}:∀{G:List Msg},Good n G->∀(s:Nat) (k:Int),1<=k->k<=cnt G s->∃m∈G,m.sender=(s:Int)/\m.seq=k:=by
 intro G;induction hl:G.length generalizing G with
 | zero =>
   intro _ s k h1 h2;have:G=[]:=List.length_eq_zero_iff.1 hl;subst this;rw[qg6] at h2;omega
 | succ z ih =>
   intro h s k h1 h2;rcases List.eq_nil_or_concat G with rfl|⟨A,m,rfl⟩
   ·cases hl
   ·have hA:Good n A:=fun A' x B e=>h A' x (B++[m]) (by simp[e]);have hm:=h A m [] (by simp);simp only[List.length_append,List.length_cons,List.length_nil,List.concat_eq_append] at *;by_cases hk:k<=cnt A s
    ·obtain⟨x,hx,h3⟩:=ih (by omega) hA s k h1 hk;exact⟨x,by simp[hx],h3⟩
    ·rw[qbr,qc7,qg6] at h2;have hs:m.sender=(s:Int):=by
      by_cases hs:m.sender=(s:Int)
      ·exact hs
      ·rw[if_neg hs] at h2;omega
     have hsn:sn m=s:=by simp[sn,hs]
     rw[if_pos hs] at h2;refine⟨m,by simp,hs,?_⟩;rw[hm.seq,hsn];omega
theorem Good.cnt_le{n:Nat}{G:List Msg}(h:Good n G)(s:Nat):cnt G s<=20:=by
 by_cases h0:cnt G s<=0
 ·omega
 ·obtain⟨m,hm,hs,hq⟩:=h.exists s (cnt G s) (by omega) (by omega);have:=h.le hm;omega
def uns(n:Nat)(kn:Nat->Nat->Int)(m:Msg):Prop:=∃q,q<n/\kn q (sn m)<m.seq
structure EvOf (e:Ev) (m:Msg):Prop where
 kind:e.kind=1\/e.kind=2
 view:e.view=0
 src:e.src=m.sender
 seq:e.seq=m.seq
 text:e.text=m.text
def Apart(l:List Msg):Prop:=l.Pairwise fun x y=>¬(x.sender=y.sender/\x.seq=y.seq)
structure One (n:Nat) (G:List Msg) (j:Nat) (p:MP):Prop where
 pos:∀q s,q<n->s<n->0<=p.kn q s
 row:∀s,s<n->p.kn j s<=cnt G s
 own:p.kn j j=cnt G j
 sub:∀m∈p.held,m∈G
 uns:∀m∈p.held,uns n p.kn m
 all:∀m∈G,m.seq<=p.kn j (sn m)->Mo.uns n p.kn m->m∈p.held
 ev1:∀e∈p.evs,∃m∈G,m.seq<=p.kn j (sn m)/\EvOf e m
 ev2:∀m∈G,m.seq<=p.kn j (sn m)->∃e∈p.evs,EvOf e m
 apart:Apart p.held
structure MI (n:Nat) (G:List Msg) (P:Nat->MP):Prop where
 good:Good n G
 one:∀j,j<n->One n G j (P j)
 low:∀j q s,j<n->q<n->s<n->(P j).kn q s<=(P q).kn q s
structure Calm (n j q:Nat) (f:Frame):Prop where
 ne:j≠q
 jn:j<n
 qn:q<n
 src:f.src=j
 dst:f.dst=q
 members:f.members=0
 view:f.view=0
 ballot:f.ballot=0
 voted:f.voted=0
 cut:f.cut=[]
 len:f.row.length=n
structure Gen (n:Nat) (G:List Msg) (P:Nat->MP) (f:Frame):Prop where
 calm:∃j q,Calm n j q f/\∀s,s<n->0<=f.row.getD s 0/\f.row.getD s 0<=(P j).kn j s
 kind:(f.kind=2/\f.msgs=[])\/(f.kind=1/\∃m∈G,f.msgs=[m])
def upd(P:Nat->MP)(j:Nat)(p:MP):Nat->MP:=fun i=>if i=j then p else P i
theorem upd_same(P:Nat->MP)(j:Nat)(p:MP):upd P j p j=p:=if_pos rfl
theorem upd_ne(P:Nat->MP){i j:Nat}(p:MP)(h:i≠j):upd P j p i=P i:=if_neg h
structure Grows (n j:Nat) (p p':MP):Prop where
 up:∀q s,q<n->s<n->p.kn q s<=p'.kn q s
theorem Gen.grows{n:Nat}{G G':List Msg}{P P':Nat->MP}{f:Frame}(h:Gen n G P f)(hG:∀m∈G,m∈G')(hP:∀j,j<n->Grows n j (P j) (P' j)):Gen n G' P' f:=by
 obtain⟨⟨j,q,c,hr⟩,hk⟩:=h;refine⟨⟨j,q,c,fun s hs=>⟨(hr s hs).1,Int.le_trans (hr s hs).2 ((hP j c.jn).up j s c.jn hs)⟩⟩,?_⟩;rcases hk with hk|⟨hk,m,hm,e⟩
 ·exact .inl hk
 ·exact .inr ⟨hk,m,hG m hm,e⟩
structure Learn (n k:Nat) (row:List Int) (p p':MP):Prop where
 kn:∀q s,q<n->s<n->p'.kn q s=if q=k then max (p.kn q s) (row.getD s 0) else p.kn q s
 held:∀m,m∈p'.held↔m∈p.held/\uns n p'.kn m
 evs:p'.evs=p.evs
 apart:Apart p.held->Apart p'.held
theorem Learn.one{n k j:Nat}{row:List Int}{p p':MP}{G:List Msg}(hL:Learn n k row p p')(hg:Good n G)(h:One n G j p)(hj:j<n)(hk:k≠j):One n G j p':=by
 have own:∀s,s<n->p'.kn j s=p.kn j s:=fun s hs=>by rw[hL.kn j s hj hs,if_neg (Ne.symm hk)]
 have mono:∀q s,q<n->s<n->p.kn q s<=p'.kn q s:=fun q s hq hs=>by rw[hL.kn q s hq hs];split <;> omega
 have back:∀m∈G,uns n p'.kn m->uns n p.kn m:=fun m hm ⟨q,hq,h1⟩=>⟨q,hq,Int.lt_of_le_of_lt (mono q _ hq (hg.le hm).2.2.2.1) h1⟩;refine⟨fun q s hq hs=>Int.le_trans (h.pos q s hq hs) (mono q s hq hs),fun s hs=>own s hs▸h.row s hs,own j hj▸h.own,fun m hm=>h.sub m ((hL.held m).1 hm).1,fun m hm=>((hL.held m).1 hm).2,fun m hm h1 h2=>?_,fun e he=>?_,fun m hm h1=>?_,hL.apart h.apart⟩
 ·exact(hL.held m).2 ⟨h.all m hm (own _ (hg.le hm).2.2.2.1▸h1) (back m hm h2),h2⟩
 ·obtain⟨m,hm,h1,h2⟩:=h.ev1 e (hL.evs▸he);exact⟨m,hm,(own _ (hg.le hm).2.2.2.1).symm▸h1,h2⟩
 ·rw[hL.evs];exact h.ev2 m hm (own _ (hg.le hm).2.2.2.1▸h1)
structure Hold (n:Nat) (m:Msg) (p p':MP):Prop where
 kn:∀q s,q<n->s<n->p'.kn q s=p.kn q s
 held:∀x,x∈p'.held↔x∈p.held\/(x=m/\uns n p.kn m/\∀y∈p.held,¬(y.sender=m.sender/\y.seq=m.seq))
 evs:p'.evs=p.evs
 apart:Apart p.held->Apart p'.held
theorem Hold.one{n j:Nat}{m:Msg}{p p':MP}{G:List Msg}(hL:Hold n m p p')(hg:Good n G)(h:One n G j p)(hj:j<n)(hm:m∈G):One n G j p':=by
 have hu:∀x∈G,uns n p'.kn x↔uns n p.kn x:=fun x hx=>by
  have:=(hg.le hx).2.2.2.1;constructor
  ·rintro⟨q,hq,h1⟩;exact⟨q,hq,hL.kn q _ hq this▸h1⟩
  ·rintro⟨q,hq,h1⟩;exact⟨q,hq,(hL.kn q _ hq this).symm▸h1⟩
 refine⟨fun q s hq hs=>hL.kn q s hq hs▸h.pos q s hq hs,fun s hs=>hL.kn j s hj hs▸h.row s hs,hL.kn j j hj hj▸h.own,fun x hx=>?_,fun x hx=>?_,fun x hx h1 h2=>?_,fun e he=>?_,fun x hx h1=>?_,hL.apart h.apart⟩
 ·rcases (hL.held x).1 hx with h1|⟨rfl, -⟩
  ·exact h.sub x h1
  ·exact hm
 ·rcases (hL.held x).1 hx with h1|⟨rfl,h1, -⟩
  ·exact(hu x (h.sub x h1)).2 (h.uns x h1)
  ·exact(hu x hm).2 h1
 ·exact(hL.held x).2 (.inl (h.all x hx (hL.kn j _ hj (hg.le hx).2.2.2.1▸h1) ((hu x hx).1 h2)))
 ·obtain⟨x,hx,h1,h2⟩:=h.ev1 e (hL.evs▸he);exact⟨x,hx,(hL.kn j _ hj (hg.le hx).2.2.2.1).symm▸h1,h2⟩
 ·rw[hL.evs];exact h.ev2 x hx (hL.kn j _ hj (hg.le hx).2.2.2.1▸h1)
structure Able (n j:Nat) (p:MP) (m:Msg):Prop where
 mem:m∈p.held
 next:m.seq=p.kn j (sn m)+1
 seen:∀q,q<n->q≠sn m->m.time.getD q 0<=p.kn j q
structure Deliv (n j:Nat) (m:Msg) (p p':MP):Prop where
 able:Able n j p m
 kn:∀q s,q<n->s<n->p'.kn q s=if q=j/\s=sn m then m.seq else p.kn q s
 held:∀x,x∈p'.held↔x∈p.held/\uns n p'.kn x
 evs:p'.evs=p.evs++[⟨2,0,m.sender,m.seq,0,m.text⟩]
 apart:Apart p.held->Apart p'.held
theorem Deliv.one{n j:Nat}{m:Msg}{p p':MP}{G:List Msg}(hL:Deliv n j m p p')(hg:Good n G)(h:One n G j p)(hj:j<n):One n G j p':=by
 have hmG:m∈G:=h.sub m hL.able.mem;have hle:=hg.le hmG;have hnext:=hL.able.next;have mono:∀q s,q<n->s<n->p.kn q s<=p'.kn q s:=fun q s hq hs=>by
  rw[hL.kn q s hq hs];split
  ·rename_i e;obtain⟨rfl,rfl⟩:=e;omega
  ·omega
 have back:∀m∈G,uns n p'.kn m->uns n p.kn m:=fun m hm ⟨q,hq,h1⟩=>⟨q,hq,Int.lt_of_le_of_lt (mono q _ hq (hg.le hm).2.2.2.1) h1⟩;have hjm:sn m≠j:=fun e=>by
  have:=h.own;have h2:=hle.2.1;rw[e] at hnext h2;omega
 have split2:∀x∈G,x.seq<=p'.kn j (sn x)->x.seq<=p.kn j (sn x)\/x=m:=fun x hx h1=>by
  rw[hL.kn j _ hj (hg.le hx).2.2.2.1] at h1;split at h1
  ·rename_i e
   have hsn:=e.2;by_cases h2:x.seq=m.seq
   ·exact .inr (hg.uniq hx hmG (by rw[(hg.le hx).2.2.2.2,hle.2.2.2.2,hsn]) h2)
   ·exact .inl (by rw[hsn];omega)
  ·exact .inl h1
 refine⟨fun q s hq hs=>Int.le_trans (h.pos q s hq hs) (mono q s hq hs),fun s hs=>?_,?_,fun x hx=>h.sub x ((hL.held x).1 hx).1,fun x hx=>((hL.held x).1 hx).2,fun x hx h1 h2=>?_,fun e he=>?_,fun x hx h1=>?_,hL.apart h.apart⟩
 ·rw[hL.kn j s hj hs];split
  ·rename_i e;rw[e.2];exact hle.2.1
  ·exact h.row s hs
 ·rw[hL.kn j j hj hj,if_neg (fun e=>hjm e.2.symm)];exact h.own
 ·refine(hL.held x).2 ⟨?_,h2⟩;rcases split2 x hx h1 with h3|rfl
  ·exact h.all x hx h3 (back x hx h2)
  ·exact hL.able.mem
 ·rw[hL.evs,List.mem_append] at he;rcases he with he|he
  ·obtain⟨x,hx,h1,h2⟩:=h.ev1 e he;exact⟨x,hx,Int.le_trans h1 (mono j _ hj (hg.le hx).2.2.2.1),h2⟩
  ·rw[List.mem_singleton] at he;subst he;refine⟨m,hmG,?_,⟨.inr rfl,rfl,rfl,rfl,rfl⟩⟩;rw[hL.kn j _ hj hle.2.2.2.1,if_pos ⟨rfl,rfl⟩];omega
 ·rw[hL.evs];rcases split2 x hx h1 with h3|rfl
  ·obtain⟨e,he,h4⟩:=h.ev2 x hx h3;exact⟨e,by simp[he],h4⟩
  ·exact⟨⟨2,0,x.sender,x.seq,0,x.text⟩,by simp,⟨.inr rfl,rfl,rfl,rfl,rfl⟩⟩
theorem Deliv.grows{n j:Nat}{m:Msg}{p p':MP}(hL:Deliv n j m p p'):Grows n j p p':=⟨fun q s hq hs=>by
 have:=hL.able.next;rw[hL.kn q s hq hs];split
 ·rename_i e;obtain⟨rfl,rfl⟩:=e;omega
 ·omega⟩
end Mo
end Go.Proofs.YtoklolfaemhfnaaGreatDoor
end
