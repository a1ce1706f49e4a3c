import Derived.Conc.CrowdRun
import Derived.Conc.Beside
import Derived.Test.YtoklolfaemhfnaaGreatDoorZae
set_option maxRecDepth 100000
set_option maxHeartbeats 8000000
namespace Go.Cr
section
open Go Go.Conc
open Go.ConcN (PermW fork_knows RelBy)
open Go.Pm (Rely Guar Ev grow Way)
inductive Tree where
 |leaf
 |node (f:World->Tree)
inductive Tree.Lt:Tree->Tree->Prop
 |mk (f:World->Tree) (w:World):Tree.Lt (f w) (.node f)
theorem Tree.acc(T:Tree):Acc Tree.Lt T:=by
 induction T with
 |leaf=>exact .intro _ fun y h=>nomatch h
 |node f ih=>exact .intro _ fun y h=>by cases h;exact ih _
inductive LStep:List Tree->List Tree->Prop
 |head {a b:Tree}{l:List Tree}:Tree.Lt b a->LStep (b::l) (a::l)
 |tail {a:Tree}{l l':List Tree}:LStep l' l->LStep (a::l') (a::l)
theorem LStep.acc:∀l,Acc LStep l:=by
 intro l;induction l with
 |nil=>exact .intro _ fun y h=>nomatch h
 | cons a l ih =>
   have key:∀a,Acc Tree.Lt a->∀l,Acc LStep l->Acc LStep (a::l):=by
    intro a ha;induction ha with
    | intro a _ iha =>
      intro l hl;induction hl with
      | intro l hl ihl =>
        refine .intro _ fun y h=>?_;cases h with
        |head h=>exact iha _ h _ (.intro _ hl)
        |tail h=>exact ihl _ h
   exact key a a.acc l ih
theorem LStep.upd{f f':Nat->Tree}{i:Nat}:∀{a n:Nat},a<=i->i<a+n->Tree.Lt (f' i) (f i)->(∀k,k≠i->f' k=f k)->LStep ((List.range' a n).map f') ((List.range' a n).map f)
 |a,0,h1,h2,_,_=>by omega
 | a, n + 1, h1, h2, hl, he => by
   simp only[List.range'_succ,yN];by_cases e:a=i
   ·subst e;have:(List.range' (a+1) n).map f'=(List.range' (a+1) n).map f:=by
     apply ya1;intro k hk;exact he k (by have:=List.mem_range'.1 hk;omega)
    rw[this];exact .head hl
   ·rw[he a e];exact .tail (LStep.upd (by omega) (by omega) hl he)
def InL(O:Nat->Prop):Loc->Prop
 |.cell a=>O a.block
 |.obj b=>O b
 |_=>False
theorem InL.mem{O:Nat->Prop}{l:Loc}(h:InL O l):l.isMemory=true:=by cases l <;> first|rfl|exact h.elim
theorem InL.imp{O O':Nat->Prop}(hh:∀b,O b->O' b){l:Loc}(h:InL O l):InL O' l:=by cases l <;> first|exact hh _ h|exact h.elim
theorem InL.not{O O':Nat->Prop}{l:Loc}(h:InL O l)(h':InL O' l):∃b,O b/\O' b:=by cases l <;> first|exact⟨_,h,h'⟩|exact h.elim
theorem InL.cases{O OB OW:Nat->Prop}(hh:∀b,O b->OB b\/OW b){l:Loc}(h:InL O l):InL OB l\/InL OW l:=by cases l <;> first|exact hh _ h|exact h.elim
theorem qmi{B:Nat}{x:MemAct}(h:x.low B){a:Touch}(ha:x.touch?=some a):InL (fun b=>B<=b) a.loc->False:=by
 intro hl;cases x with
 | access e =>
   injection ha with ha;subst ha;obtain⟨loc,wr,sy⟩:=e;cases loc <;> first|exact hl.elim|exact absurd h (yan.2 hl)
 | mark m =>
   cases m <;> first|(injection ha with ha;subst ha;exact absurd h (yan.2 hl))|cases ha
 |_=>cases ha
theorem qk4{B:Nat}{t:Trace}(h:∀op∈t,op.act.low B){i:Nat}{a:Touch}(ha:touchAt t i=some a)(hl:InL (fun b=>B<=b) a.loc):False:=by
 obtain⟨x,hx,hxa⟩:=touch_of ha;exact qmi (h x (yaj hx)) hxa hl
structure Sets (W O K:Nat->Prop) (j:Nat) (own ro:Nat->Nat->Prop) (B:Nat):Prop where
 lt0:∀b,O b\/K b\/W b->b<B
 lt:∀i,i<j->∀b,own i b\/ro i b->b<B
 ok:∀b,O b->¬K b
 w0:∀b,W b->¬O b/\¬K b
 wi:∀i,i<j->∀b,W b->¬own i b/\¬ro i b
 o0:∀i,i<j->∀b,O b->¬own i b/\¬ro i b
 k0:∀i,i<j->∀b,K b->¬own i b
 oo:∀i k,i<j->k<j->i≠k->∀b,own i b->¬own k b
 or:∀i k,i<j->k<j->∀b,own i b->¬ro k b
def OkT(g:Nat)(O K W:Nat->Prop)(x:Touch):Prop:=
 x.loc.isMemory=false\/InL O x.loc\/(InL K x.loc/\x.write=false)\/(InL W x.loc/\(x.kind=.atomic\/(g=0/\x.kind=.said)))
def OkU(g:Nat)(O K W:Nat->Prop)(B:Nat)(u:Trace):Prop:=
 ∀op∈u,op.g=g/\(∀x,op.act.touch?=some x->OkT g O K W x)/\op.act.low B/\∀a,op.act≠.mark (.release a)
structure TL (W O K:Nat->Prop) (base j:Nat) (own ro:Nat->Nat->Prop) (B:Nat) (t:Trace):Prop where
 clean:∀said,¬Race said t
 seen:∀op∈t,op.act.low B
 own0:∀l,InL O l->Conc.Perm t 0 l
 ro0:∀l,InL K l->PermW t 0 l
 own:∀i,i<j->∀l,InL (own i) l->Conc.Perm t (i+1) l
 ro:∀i,i<j->∀l,InL (ro i) l->PermW t (i+1) l
 wg0:∀i a,touchAt t i=some a->InL W a.loc->a.kind≠.atomic->Knows t 0 i
 wg:∀k,base<=k->k<j->∀i a,touchAt t i=some a->InL W a.loc->a.kind=.plain->Knows t (k+1) i
 rest:∀i a,touchAt t i=some a->a.loc.isMemory=true->Knows t 0 i\/(a.kind=.atomic/\InL W a.loc)\/(∃k,base<=k/\k<j/\t.g? i=some (k+1))
 over:∀i g,t.g? i=some g->g≠0->t.counts i->(∃q,t.g? q=some 0/\HappensBefore t i q)\/(∃k,base<=k/\k<j/\g=k+1)
 above:∀k,j<k->Deaf t k=0
 norel:∀op∈t,∀a,op.act≠.mark (.release a)
theorem qm{t u:Trace}{i:Nat}{a:Touch}(h:touchAt (t++u) i=some a):touchAt t i=some a\/(∃op∈u,op.act.touch?=some a/\(t++u)[i]?=some op):=by
 obtain⟨x,hx,hxa⟩:=touch_of h;rcases getElem?_append_cases hx with ⟨_,hx'⟩|⟨_,hxu⟩
 ·exact .inl (by rw[touchAt_of hx'];exact hxa)
 ·exact .inr ⟨x,hxu,hxa,hx⟩
theorem qb8{t u:Trace}{i g:Nat}(h:t.g? i=some g):(t++u).g? i=some g:=by
 obtain⟨z,hz,_⟩:=yE.1 h;rw[g?_old (lt_size_of_getElem? hz)];exact h
section
variable {W O K:Nat->Prop}{base j:Nat}{own ro:Nat->Nat->Prop}{B B':Nat}{t u:Trace}
theorem qf9{g:Nat}{O' K':Nat->Prop}{said:Bool}(hc:¬Race said t)(hu:OkU g O' K' W B' u)
 (hO:∀l,InL O' l->Conc.Perm t g l) (hK:∀l,InL K' l->PermW t g l)
 (hp:∀i a,touchAt t i=some a->InL W a.loc->a.kind=.plain->Knows t g i) (h0:g=0->∀i a,touchAt t i=some a->InL W a.loc->a.kind≠.atomic->Knows t 0 i):¬Race said (t++u):=by
 refine noRace_append hc (fun op hop=>(hu op hop).1) fun i a ha op hop b hb hconf=>?_;obtain⟨e,hm,hw,hk⟩:=hconf;rcases (hu op hop).2.1 b hb with h|h|⟨h,hr⟩|⟨h,hat⟩
 ·rw[<-e,hm] at h;cases h
 ·exact hO _ h i a ha e
 ·exact hK _ h i a ha e (hw.resolve_right (by simp[hr]))
 ·have hWa:InL W a.loc:=e▸h;rcases hat with hat|⟨rfl,hat⟩
  ·rcases hk with hk|hk|⟨_,_,hk⟩
   ·exact hp i a ha hWa hk
   ·rw[hat] at hk;cases hk
   ·rw[hat] at hk;cases hk
  ·refine h0 rfl i a ha hWa fun hx=>?_;rcases hk with hk|hk|⟨_,hk,_⟩
   ·rw[hx] at hk;cases hk
   ·rw[hat] at hk;cases hk
   ·rw[hx] at hk;cases hk
theorem qkq{g:Nat}(hs:∀op∈t,op.act.low B){l:Loc}(hl:InL (fun b=>B<=b) l):Conc.Perm t g l:=fun i a ha e=>(qk4 hs ha (by rw[e];exact hl)).elim
theorem TL.app0{O':Nat->Prop}(S:Sets W O K j own ro B)(h:TL W O K base j own ro B t)(hB:B<=B')(hO:∀b,O' b->O b\/B<=b)(hu:OkU 0 O' K W B' u):TL W O' K base j own ro B' (t++u):=by
 have hOl:∀l,InL O' l->Conc.Perm t 0 l:=fun l hl=>(InL.cases hO hl).elim (h.own0 l) (qkq h.seen);have apart:∀(Z:Nat->Prop),(∀b,Z b->b<B)->(∀b,O b->¬Z b)->(∀b,W b->¬Z b)->∀l,InL Z l->∀op∈u,∀b:Touch,op.act.touch?=some b->b.loc=l->(InL K l/\b.write=false):=by
  intro Z hZ hZO hZW l hl op hop b hb e;rcases (hu op hop).2.1 b hb with hx|hx|⟨hx,hr⟩|⟨hx,_⟩
  ·rw[e,hl.mem] at hx;cases hx
  ·exfalso
   rw[e] at hx;obtain⟨c,c1,c2⟩:=InL.not hl hx;rcases hO c c2 with c2|c2
   ·exact hZO c c2 c1
   ·exact absurd (hZ c c1) (yan.2 c2)
  ·exact⟨e▸hx,hr⟩
  ·exfalso
   rw[e] at hx;obtain⟨c,c1,c2⟩:=InL.not hl hx;exact hZW c c2 c1
 refine⟨fun said=>qf9 (h.clean said) hu hOl h.ro0 (fun i a ha hW hp=>h.wg0 i a ha hW (by rw[hp];simp)) (fun _=>h.wg0),
  seen_app (fun op hop=>MemAct.low_mono hB (h.seen op hop)) (fun op hop=>(hu op hop).2.2.1),
  fun l hl=>(hOl l hl).app fun op hop _ _ _=>(hu op hop).1,fun l hl=>(h.ro0 l hl).app fun op hop _ _ _ _=>(hu op hop).1,fun i hi l hl=>(h.own i hi l hl).app fun op hop b hb e=>?_,fun i hi l hl=>(h.ro i hi l hl).app fun op hop b hb e hw=>?_,
  fun i a ha hW hk=>?_,fun k k1 k2 i a ha hW hk=>?_,fun i a ha hm=>?_,fun i g hg hne hc=>?_,fun k hk=>?_,fun op hop a=>?_⟩
 ·exfalso
  have:=apart (own i) (fun b hb=>S.lt i hi b (.inl hb)) (fun b hb=>(S.o0 i hi b hb).1) (fun b hb=>(S.wi i hi b hb).1) l hl op hop b hb e;obtain⟨c,c1,c2⟩:=InL.not hl this.1;exact S.k0 i hi c c2 c1
 ·exfalso
  have:=apart (ro i) (fun b hb=>S.lt i hi b (.inr hb)) (fun b hb=>(S.o0 i hi b hb).2) (fun b hb=>(S.wi i hi b hb).2) l hl op hop b hb e;rw[this.2] at hw;cases hw
 ·rcases qm ha with ha|⟨op,hop,hoa,hi⟩
  ·exact(h.wg0 i a ha hW hk).app u
  ·have:=knows_own hi;rwa [(hu op hop).1] at this
 ·rcases qm ha with ha|⟨op,hop,hoa,hi⟩
  ·exact(h.wg k k1 k2 i a ha hW hk).app u
  ·exfalso
   rcases (hu op hop).2.1 a hoa with hx|hx|⟨hx,_⟩|⟨_,hx⟩
   ·rw[hW.mem] at hx;cases hx
   ·obtain⟨c,c1,c2⟩:=InL.not hW hx;rcases hO c c2 with c2|c2
    ·exact(S.w0 c c1).1 c2
    ·exact absurd (S.lt0 c (.inr (.inr c1))) (yan.2 c2)
   ·obtain⟨c,c1,c2⟩:=InL.not hW hx;exact(S.w0 c c1).2 c2
   ·rw[hk] at hx;rcases hx with hx|⟨_,hx⟩ <;> cases hx
 ·rcases qm ha with ha|⟨op,hop,hoa,hi⟩
  ·exact(h.rest i a ha hm).imp (·.app u) (Or.imp id fun ⟨k,k1,k2,k3⟩=>⟨k,k1,k2,qb8 k3⟩)
  ·have:=knows_own hi;rw[(hu op hop).1] at this;exact .inl this
 ·obtain⟨z,hz,rfl⟩:=yE.1 hg;rcases getElem?_append_cases hz with ⟨hi,hz'⟩|⟨_,hzu⟩
  ·exact(h.over i z.g (by simp[Trace.g?,hz']) hne ((counts_old hi).1 hc)).imp (fun ⟨q,q1,q2⟩=>⟨q,qb8 q1,hb_app u q2⟩) id
  ·exact absurd (hu z hzu).1 hne
 ·rw[Deaf_other t (g':=0) (by omega) u fun op hop=>(hu op hop).1];exact h.above k hk
 ·exact(ybf.1 hop).elim (fun x=>h.norel op x a) (fun x=>(hu op x).2.2.2 a)
theorem TL.appW{own':Nat->Nat->Prop}{i:Nat}(S:Sets W O K j own ro B)(h:TL W O K base j own ro B t)(hb:base<=i)(hi:i<j)(hB:B<=B')(hO:∀b,own' i b->own i b\/B<=b)(hne:∀k,k≠i->own' k=own k)
 (hu:OkU (i+1) (own' i) (ro i) W B' u):TL W O K base j own' ro B' (t++u):=by
 have hOl:∀l,InL (own' i) l->Conc.Perm t (i+1) l:=fun l hl=>(InL.cases hO hl).elim (h.own i hi l) (qkq h.seen);have apart:∀(Z:Nat->Prop),(∀b,Z b->b<B)->(∀b,own i b->¬Z b)->(∀b,W b->¬Z b)->∀l,InL Z l->∀op∈u,∀b:Touch,op.act.touch?=some b->b.loc=l->(InL (ro i) l/\b.write=false):=by
  intro Z hZ hZO hZW l hl op hop b hb e;rcases (hu op hop).2.1 b hb with hx|hx|⟨hx,hr⟩|⟨hx,_⟩
  ·rw[e,hl.mem] at hx;cases hx
  ·exfalso
   rw[e] at hx;obtain⟨c,c1,c2⟩:=InL.not hl hx;rcases hO c c2 with c2|c2
   ·exact hZO c c2 c1
   ·exact absurd (hZ c c1) (yan.2 c2)
  ·exact⟨e▸hx,hr⟩
  ·exfalso
   rw[e] at hx;obtain⟨c,c1,c2⟩:=InL.not hl hx;exact hZW c c2 c1
 refine⟨fun said=>qf9 (h.clean said) hu hOl (h.ro i hi) (h.wg i hb hi) (fun e=>by omega),
  seen_app (fun op hop=>MemAct.low_mono hB (h.seen op hop)) (fun op hop=>(hu op hop).2.2.1),
  fun l hl=>(h.own0 l hl).app fun op hop b hb e=>?_,fun l hl=>(h.ro0 l hl).app fun op hop b hb e hw=>?_,fun k hk l hl=>?_,fun k hk l hl=>(h.ro k hk l hl).app fun op hop b hb e hw=>?_,
  fun x a ha hW hk=>?_,fun k k1 k2 x a ha hW hk=>?_,fun x a ha hm=>?_,fun x g hg hne hc=>?_,fun k hk=>?_,fun op hop a=>?_⟩
 ·exfalso
  have:=apart O (fun b hb=>S.lt0 b (.inl hb)) (fun b hb h'=>(S.o0 i hi b h').1 hb) (fun b hb=>(S.w0 b hb).1) l hl op hop b hb e;obtain⟨c,c1,c2⟩:=InL.not hl this.1;exact(S.o0 i hi c c1).2 c2
 ·exfalso
  have:=apart K (fun b hb=>S.lt0 b (.inr (.inl hb))) (fun b hb h'=>S.k0 i hi b h' hb) (fun b hb=>(S.w0 b hb).2) l hl op hop b hb e;rw[this.2] at hw;cases hw
 ·by_cases e:k=i
  ·subst e;exact(hOl l hl).app fun op hop _ _ _=>(hu op hop).1
  ·rw[hne k e] at hl;refine(h.own k hk l hl).app fun op hop b hb e'=>?_;exfalso
   have:=apart (own k) (fun b hb=>S.lt k hk b (.inl hb)) (fun b hb h'=>S.oo i k hi hk (Ne.symm e) b hb h') (fun b hb=>(S.wi k hk b hb).1) l hl op hop b hb e';obtain⟨c,c1,c2⟩:=InL.not hl this.1;exact S.or k i hk hi c c1 c2
 ·exfalso
  have:=apart (ro k) (fun b hb=>S.lt k hk b (.inr hb)) (fun b hb h'=>S.or i k hi hk b hb h') (fun b hb=>(S.wi k hk b hb).2) l hl op hop b hb e;rw[this.2] at hw;cases hw
 ·rcases qm ha with ha|⟨op,hop,hoa,_⟩
  ·exact(h.wg0 x a ha hW hk).app u
  ·exfalso
   rcases (hu op hop).2.1 a hoa with hx|hx|⟨hx,_⟩|⟨_,hx⟩
   ·rw[hW.mem] at hx;cases hx
   ·obtain⟨c,c1,c2⟩:=InL.not hW hx;rcases hO c c2 with c2|c2
    ·exact(S.wi i hi c c1).1 c2
    ·exact absurd (S.lt0 c (.inr (.inr c1))) (yan.2 c2)
   ·obtain⟨c,c1,c2⟩:=InL.not hW hx;exact(S.wi i hi c c1).2 c2
   ·rcases hx with hx|⟨hx,_⟩
    ·exact hk hx
    ·omega
 ·rcases qm ha with ha|⟨op,hop,hoa,_⟩
  ·exact(h.wg k k1 k2 x a ha hW hk).app u
  ·exfalso
   rcases (hu op hop).2.1 a hoa with hx|hx|⟨hx,_⟩|⟨_,hx⟩
   ·rw[hW.mem] at hx;cases hx
   ·obtain⟨c,c1,c2⟩:=InL.not hW hx;rcases hO c c2 with c2|c2
    ·exact(S.wi i hi c c1).1 c2
    ·exact absurd (S.lt0 c (.inr (.inr c1))) (yan.2 c2)
   ·obtain⟨c,c1,c2⟩:=InL.not hW hx;exact(S.wi i hi c c1).2 c2
   ·rw[hk] at hx;rcases hx with hx|⟨_,hx⟩ <;> cases hx
 ·rcases qm ha with ha|⟨op,hop,hoa,hx⟩
  ·exact(h.rest x a ha hm).imp (·.app u) (Or.imp id fun ⟨k,k1,k2,k3⟩=>⟨k,k1,k2,qb8 k3⟩)
  ·exact .inr (.inr ⟨i,hb,hi,by simp[Trace.g?,hx,(hu op hop).1]⟩)
 ·obtain⟨z,hz,rfl⟩:=yE.1 hg;rcases getElem?_append_cases hz with ⟨hi',hz'⟩|⟨_,hzu⟩
  ·exact(h.over x z.g (by simp[Trace.g?,hz']) hne ((counts_old hi').1 hc)).imp (fun ⟨q,q1,q2⟩=>⟨q,qb8 q1,hb_app u q2⟩) id
  ·exact .inr ⟨i,hb,hi,(hu z hzu).1⟩
 ·rw[Deaf_other t (g':=i+1) (by omega) u fun op hop=>(hu op hop).1];exact h.above k hk
 ·exact(ybf.1 hop).elim (fun x=>h.norel op x a) (fun x=>(hu op x).2.2.2 a)
theorem TL.mute{g:Nat}(h:TL W O K base j own ro B t)(hg:g<=j)(hu:∀op∈u,op.g=g/\op.act.touch?=none/\op.act.low B/\∀a,op.act≠.mark (.release a)):TL W O K base j own ro B (t++u):=by
 have no:∀op∈u,∀b:Touch,op.act.touch?=some b->False:=fun op hop b hb=>by rw[(hu op hop).2.1] at hb;cases hb
 refine⟨fun said=>noRace_append (h.clean said) (fun op hop=>(hu op hop).1) fun i a _ op hop b hb _=>(no op hop b hb).elim,seen_app h.seen (fun op hop=>(hu op hop).2.2.1),
  fun l hl=>(h.own0 l hl).app fun op hop b hb _=>(no op hop b hb).elim,fun l hl=>(h.ro0 l hl).app fun op hop b hb _ _=>(no op hop b hb).elim,fun i hi l hl=>(h.own i hi l hl).app fun op hop b hb _=>(no op hop b hb).elim,fun i hi l hl=>(h.ro i hi l hl).app fun op hop b hb _ _=>(no op hop b hb).elim,
  fun i a ha hW hk=>?_,fun k k1 k2 i a ha hW hk=>?_,fun i a ha hm=>?_,fun i g' hg' hne hc=>?_,fun k hk=>?_,fun op hop a=>?_⟩
 ·rcases qm ha with ha|⟨op,hop,hoa,_⟩
  ·exact(h.wg0 i a ha hW hk).app u
  ·exact(no op hop a hoa).elim
 ·rcases qm ha with ha|⟨op,hop,hoa,_⟩
  ·exact(h.wg k k1 k2 i a ha hW hk).app u
  ·exact(no op hop a hoa).elim
 ·rcases qm ha with ha|⟨op,hop,hoa,_⟩
  ·exact(h.rest i a ha hm).imp (·.app u) (Or.imp id fun ⟨k,k1,k2,k3⟩=>⟨k,k1,k2,qb8 k3⟩)
  ·exact(no op hop a hoa).elim
 ·obtain⟨z,hz,rfl⟩:=yE.1 hg';rcases getElem?_append_cases hz with ⟨hi,hz'⟩|⟨_,hzu⟩
  ·exact(h.over i z.g (by simp[Trace.g?,hz']) hne ((counts_old hi).1 hc)).imp (fun ⟨q,q1,q2⟩=>⟨q,qb8 q1,hb_app u q2⟩) id
  ·obtain⟨x,hx,_⟩:=hc;obtain⟨y,hy,hya⟩:=touch_of hx;rw[hz] at hy;cases hy;exact(no z hzu x hya).elim
 ·rw[Deaf_other t (g':=g) (by omega) u fun op hop=>(hu op hop).1];exact h.above k hk
 ·exact(ybf.1 hop).elim (fun x=>h.norel op x a) (fun x=>(hu op x).2.2.2 a)
theorem TL.fork{Bs R:Nat->Prop}{own' ro':Nat->Nat->Prop}(h:TL W O K base j own ro B t)(hbj:base<=j){x y:MemOp}(hx:x.g=0/\x.act=.go (j+1))(hy:y.g=j+1/\y.act=.start)(h0:Deaf t 0=0)
 (hB:∀b,Bs b->O b) (hR:∀b,R b->O b\/K b) (e1:own' j=Bs) (e2:ro' j=R) (e3:∀k,k≠j->own' k=own k) (e4:∀k,k≠j->ro' k=ro k) :
 TL W (fun b=>O b/\¬Bs b/\¬R b) (fun b=>K b\/R b) base (j+1) own' ro' B (t++#[x,y]):=by
 have hdk:Deaf t (j+1)=0:=h.above _ (by omega);have hmem:∀op∈#[x,y],op=x\/op=y:=by intro op hop;simpa using hop
 have no:∀op∈#[x,y],∀b:Touch,op.act.touch?=some b->False:=by
  intro op hop b hb;rcases hmem op hop with rfl|rfl
  ·rw[hx.2] at hb;cases hb
  ·rw[hy.2] at hb;cases hb
 have old:∀{i:Nat}{a:Touch},touchAt (t++#[x,y]) i=some a->touchAt t i=some a:=fun ha=>(qm ha).elim id fun ⟨op,hop,hoa,_⟩=>(no op hop _ hoa).elim;have kn:∀{i:Nat},Knows t 0 i->Knows (t++#[x,y]) (j+1) i:=fun hi=>fork_knows hx hy h0 hdk hi;refine⟨fun said=>?_,seen_app h.seen (fun op hop=>?_),fun l hl=>(h.own0 l (hl.imp fun b hb=>hb.1)).app fun op hop b hb _=>(no op hop b hb).elim,fun l hl=>?_,fun i hi l hl=>?_,fun i hi l hl=>?_,
  fun i a ha hW hk=>(h.wg0 i a (old ha) hW hk).app _,fun k k1 k2 i a ha hW hk=>?_,fun i a ha hm=>?_,fun i g hg hne hc=>?_,fun k hk=>?_,fun op hop a=>?_⟩
 ·have e:t++#[x,y]=(t++#[x])++#[y]:=by apply Array.ext';simp
  rw[e];refine noRace_append (g:=j+1) (noRace_append (g:=0) (h.clean said) (fun op hop=>by simp at hop;rw[hop];exact hx.1) (fun i a _ op hop b hb _=>(no op (by simp at hop ⊢;exact .inl hop) b hb).elim))
   (fun op hop=>by simp at hop;rw[hop];exact hy.1) (fun i a _ op hop b hb _=>(no op (by simp at hop ⊢;exact .inr hop) b hb).elim)
 ·rcases hmem op hop with rfl|rfl
  ·rw[hx.2];trivial
  ·rw[hy.2];trivial
 ·have:PermW t 0 l:=by
   rcases InL.cases (OB:=K) (OW:=R) (fun b hb=>hb) hl with hl|hl
   ·exact h.ro0 l hl
   ·rcases InL.cases hR hl with hl|hl
    ·exact .of (h.own0 l hl)
    ·exact h.ro0 l hl
  exact this.app fun op hop b hb _ _=>(no op hop b hb).elim
 ·by_cases e:i=j
  ·subst e;rw[e1] at hl;exact fun q a ha el=>kn (h.own0 l (hl.imp hB) q a (old ha) el)
  ·rw[e3 i e] at hl;exact(h.own i (by omega) l hl).app fun op hop b hb _=>(no op hop b hb).elim
 ·by_cases e:i=j
  ·subst e;rw[e2] at hl;exact fun q a ha el hw=>kn ((InL.cases hR hl).elim (fun hl=>h.own0 l hl q a (old ha) el) (fun hl=>h.ro0 l hl q a (old ha) el hw))
  ·rw[e4 i e] at hl;exact(h.ro i (by omega) l hl).app fun op hop b hb _ _=>(no op hop b hb).elim
 ·by_cases e:k=j
  ·subst e;exact kn (h.wg0 i a (old ha) hW (by rw[hk];simp))
  ·exact(h.wg k k1 (by omega) i a (old ha) hW hk).app _
 ·exact(h.rest i a (old ha) hm).imp (·.app _) (Or.imp id fun ⟨k,k1,k2,k3⟩=>⟨k,k1,by omega,qb8 k3⟩)
 ·obtain⟨z,hz,rfl⟩:=yE.1 hg;rcases getElem?_append_cases hz with ⟨hi,hz'⟩|⟨_,hzu⟩
  ·exact(h.over i z.g (by simp[Trace.g?,hz']) hne ((counts_old hi).1 hc)).imp (fun ⟨q,q1,q2⟩=>⟨q,qb8 q1,hb_app _ q2⟩) fun ⟨k,k1,k2,k3⟩=>⟨k,k1,by omega,k3⟩
  ·obtain⟨x',hx',_⟩:=hc;obtain⟨y',hy',hya⟩:=touch_of hx';rw[hz] at hy';cases hy';exact(no z hzu x' hya).elim
 ·have e:t++#[x,y]=(t++#[x])++#[y]:=by apply Array.ext';simp
  rw[e,Deaf_other (t++#[x]) (g':=j+1) (by omega) #[y] (fun op hop=>by simp at hop;rw[hop];exact hy.1),Deaf_other t (g':=0) (by omega) #[x] (fun op hop=>by simp at hop;rw[hop];exact hx.1)];exact h.above k (by omega)
 ·rcases ybf.1 hop with hop|hop
  ·exact h.norel op hop a
  ·rcases hmem op hop with rfl|rfl
   ·rw[hx.2];simp
   ·rw[hy.2];simp
structure RelX (a:Addr) (W:Nat->Prop) (t:Trace) (k r:Nat):Prop where
 by_:RelBy a t k r
 after:∀i x,r<i->t.g? i=some k->touchAt t i=some x->x.kind=.atomic/\InL W x.loc
theorem TL.acquire{a:Addr}{O':Nat->Prop}{own' ro':Nat->Nat->Prop}(h:TL W O K base j own ro B t)(hrel:∀k,base<=k->k<j->∃r,RelX a W t (k+1) r)(h0:Deaf t 0=0){y:MemOp}(hy:y.g=0/\y.act=.mark (.acquire a))(ha:a.block<B)
 (hO:∀b,O' b->¬W b) (e1:∀i b,¬own' i b) (e2:∀i b,¬ro' i b):TL W O' K j j own' ro' B (t++#[y]):=by
 have hmem:∀op∈#[y],op=y:=by intro op hop;simpa using hop
 have no:∀op∈#[y],∀b:Touch,op.act.touch?=some b->False:=by
  intro op hop b hb;rw[hmem op hop,hy.2] at hb;cases hb
 have old:∀{i:Nat}{a:Touch},touchAt (t++#[y]) i=some a->touchAt t i=some a:=fun ha=>(qm ha).elim id fun ⟨op,hop,hoa,_⟩=>(no op hop _ hoa).elim;have hyp:(t++#[y])[t.size]?=some y:=by rw[Array.getElem?_append_right (yb _)];simp
 have edge:∀k,base<=k->k<j->∃r,RelX a W t (k+1) r/\HappensBefore (t++#[y]) r t.size:=by
  intro k k1 k2;obtain⟨r,hr⟩:=hrel k k1 k2;have hrs:=lt_of_act? hr.by_.act;refine⟨r,hr,.single (.inr ⟨.marked (a:=a) hrs (.inr (by rw[act?_old hrs];exact hr.by_.act)) (by rw[act?_of hyp,hy.2]) (fun i _ hi e=>?_),(heard_old hrs).2 hr.by_.heard,⟨0,by simp[Trace.g?,hy.1],by rw[deaf_old (yb _)];exact h0⟩⟩)⟩;rw[act?_old hi] at e;obtain⟨op,ho,hoa⟩:=yE.1 e;exact h.norel op (yaj ho) a hoa
 have hb:∀k,base<=k->k<j->∀i,t.g? i=some (k+1)->HappensBefore (t++#[y]) i t.size\/∃r,RelX a W t (k+1) r/\r<i:=by
  intro k k1 k2 i hi;obtain⟨r,hr,he⟩:=edge k k1 k2;rcases yaX i r with hlt|rfl|hgt
  ·exact .inl (.trans (.single (.inl ⟨hlt,k+1,qb8 hi,qb8 hr.by_.g⟩)) he)
  ·exact .inl he
  ·exact .inr ⟨r,hr,hgt⟩
 have kn0:∀i,HappensBefore (t++#[y]) i t.size->Knows (t++#[y]) 0 i:=fun i hi=>⟨t.size,y,hyp,hy.1,.inr hi⟩;have hrest:∀i x,touchAt (t++#[y]) i=some x->x.loc.isMemory=true->Knows (t++#[y]) 0 i\/(x.kind=.atomic/\InL W x.loc):=by
  intro i x hx hm;rcases h.rest i x (old hx) hm with hk|hk|⟨k,k1,k2,k3⟩
  ·exact .inl (hk.app _)
  ·exact .inr hk
  ·rcases hb k k1 k2 i k3 with hk|⟨r,hr,hlt⟩
   ·exact .inl (kn0 i hk)
   ·exact .inr (hr.after i x hlt k3 (old hx))
 refine⟨fun said=>noRace_append (g:=0) (h.clean said) (fun op hop=>by rw[hmem op hop];exact hy.1) (fun i a _ op hop b hb _=>(no op hop b hb).elim),seen_app h.seen (fun op hop=>by rw[hmem op hop,hy.2];exact ha),
  fun l hl i x hx el=>?_,fun l hl=>(h.ro0 l hl).app fun op hop b hb _ _=>(no op hop b hb).elim,fun i hi l hl=>?_,fun i hi l hl=>?_,
  fun i a ha hW hk=>(h.wg0 i a (old ha) hW hk).app _,fun k k1 k2=>by omega,fun i x hx hm=>(hrest i x hx hm).imp id .inl,fun i g hg hne hc=>?_,fun k hk=>?_,fun op hop a=>?_⟩
 ·rcases hrest i x hx (by rw[el];exact hl.mem) with hk|⟨_,hk⟩
  ·exact hk
  ·rw[el] at hk;obtain⟨c,c1,c2⟩:=InL.not hk hl;exact absurd c1 (hO c c2)
 ·exfalso;cases l <;> first|exact hl.elim|exact e1 i _ hl
 ·exfalso;cases l <;> first|exact hl.elim|exact e2 i _ hl
 ·obtain⟨z,hz,rfl⟩:=yE.1 hg;rcases getElem?_append_cases hz with ⟨hi,hz'⟩|⟨_,hzu⟩
  ·have hg':t.g? i=some z.g:=by simp[Trace.g?,hz']
   rcases h.over i z.g hg' hne ((counts_old hi).1 hc) with ⟨q,q1,q2⟩|⟨k,k1,k2,k3⟩
   ·exact .inl ⟨q,qb8 q1,hb_app _ q2⟩
   ·rw[k3] at hg';rcases hb k k1 k2 i hg' with hk|⟨r,hr,hlt⟩
    ·exact .inl ⟨t.size,by simp[Trace.g?,hy.1],hk⟩
    ·exact absurd ((counts_old hi).1 hc) (hr.by_.after i hlt hg')
  ·rw[hmem z hzu] at hne;exact absurd hy.1 hne
 ·rw[Deaf_other t (g':=0) (by omega) #[y] (fun op hop=>by rw[hmem op hop];exact hy.1)];exact h.above k hk
 ·rcases ybf.1 hop with hop|hop
  ·exact h.norel op hop a
  ·rw[hmem op hop,hy.2];simp
theorem TL.enter{Wg:Nat}(h:TL W O K j j own ro B t)(hW:O Wg):TL (fun b=>W b\/b=Wg) (fun b=>O b/\b≠Wg) K j j own ro B t:=by
 refine⟨h.clean,h.seen,fun l hl=>h.own0 l (hl.imp fun b hb=>hb.1),h.ro0,h.own,h.ro,fun i a ha hl hk=>?_,fun k k1 k2=>by omega,fun i a ha hm=>(h.rest i a ha hm).imp id (Or.imp (fun ⟨x,y⟩=>⟨x,y.imp fun b hb=>.inl hb⟩) id),h.over,h.above,h.norel⟩;rcases InL.cases (OB:=W) (OW:=fun b=>b=Wg) (fun b hb=>hb) hl with hl|hl
 ·exact h.wg0 i a ha hl hk
 ·exact h.own0 a.loc (hl.imp fun b hb=>hb▸hW) i a ha rfl
end
end
section
open Go Go.Conc
open Go.ConcN (PermW fork_knows RelBy WgLive sumTo upd upd_same upd_ne sumTo_upd sumTo_upd_out sumTo_congr get_map_set get_map_set_same)
open Go.ConcR (KK wgBlock WgAt stA smA rd wr mk Bk g_of_ofEvents ofEvent_loc_mark ofEvent_cell ofEvent_mk loc_of_ofEvent)
open Go.Pm (Rely Guar Ev grow Way)
abbrev Fact:=(Nat->Prop)->World->Prop
def XNone:Event->Prop:=fun _=>False
inductive Wk (P:Program) (ty:TypeId) (Wg:Nat) (Q:Fact) (K:Nat->Prop):Tree->Nat->Nat->(Nat->Prop)->Goroutine->World->Prop
 |idle {f:World->Tree}{s d:Nat}{O:Nat->Prop}{g:Goroutine}{w:World} (hs:(s=7/\d=0)\/(s=6/\d=0)\/(2<=s/\s<=5/\d=1)) (hrun:g.status=.running)
  (hgo:∀wB,Rely O K (WgLive ty Wg) w wB->∃g' w' es,stepG P false g wB=.go g' w' es/\Guar O K XNone wB w' es/\(s≠7->w'=wB/\es=#[]))
  (h:∀wB g' w' es,Rely O K (WgLive ty Wg) w wB->stepG P false g wB=.go g' w' es->Wk P ty Wg Q K (f wB) s d (grow O wB w') g' w'):Wk P ty Wg Q K (.node f) s d O g w
 |rel {f:World->Tree}{O:Nat->Prop}{g:Goroutine}{w:World} (hrun:g.status=.running) (hQ:∀wB,Rely O K (WgLive ty Wg) w wB->Q O wB)
  (hgo:∀wB,Rely O K (WgLive ty Wg) w wB->∃g',stepG P false g wB=.go g' wB #[mk (.releaseMerge (stA Wg))])
  (h:∀wB g' w' es,Rely O K (WgLive ty Wg) w wB->stepG P false g wB=.go g' w' es->Wk P ty Wg Q K (f wB) 6 0 O g' w'):Wk P ty Wg Q K (.node f) 7 0 O g w
 |dis {f:World->Tree}{O:Nat->Prop}{g:Goroutine}{w:World} (hrun:g.status=.running)
  (hgo:∀wB,Rely O K (WgLive ty Wg) w wB->∃g',stepG P false g wB=.go g' wB #[mk .disable])
  (h:∀wB g' w' es,Rely O K (WgLive ty Wg) w wB->stepG P false g wB=.go g' w' es->Wk P ty Wg Q K (f wB) 5 1 O g' w'):Wk P ty Wg Q K (.node f) 6 0 O g w
 |add {f:World->Tree}{O:Nat->Prop}{g:Goroutine}{w:World} (hrun:g.status=.running)
  (hgo:∀wB,Rely O K (WgLive ty Wg) w wB->∀v wt:Nat,wt<=1->v<2147483647->WgAt ty Wg wB ((v+1) * KK+wt) 0->∃g',stepG P false g wB=.go g' (wB.setCell (stA Wg) (.int .u64 (v * KK+wt))) #[rd (stA Wg),wr (stA Wg)])
  (h4:∀wB g' w' es,Rely O K (WgLive ty Wg) w wB->WgAt ty Wg wB (((0:Nat)+1) * KK+(1:Nat)) 0->stepG P false g wB=.go g' w' es->Wk P ty Wg Q K (f wB) 4 1 O g' w')
  (h1:∀wB g' w' es (v wt:Nat),Rely O K (WgLive ty Wg) w wB->wt<=1->v<2147483647->WgAt ty Wg wB ((v+1) * KK+wt) 0->¬(v=0/\wt=1)->stepG P false g wB=.go g' w' es->Wk P ty Wg Q K (f wB) 1 1 O g' w'):Wk P ty Wg Q K (.node f) 5 1 O g w
 |d2 {f:World->Tree}{O:Nat->Prop}{g:Goroutine}{w:World} (hrun:g.status=.running)
  (hgo:∀wB,Rely O K (WgLive ty Wg) w wB->WgAt ty Wg wB 1 0->∃g',stepG P false g wB=.go g' wB #[rd (stA Wg)])
  (h:∀wB g' w' es,Rely O K (WgLive ty Wg) w wB->WgAt ty Wg wB 1 0->stepG P false g wB=.go g' w' es->Wk P ty Wg Q K (f wB) 3 1 O g' w'):Wk P ty Wg Q K (.node f) 4 1 O g w
 |d3 {f:World->Tree}{O:Nat->Prop}{g:Goroutine}{w:World} (hrun:g.status=.running)
  (hgo:∀wB,Rely O K (WgLive ty Wg) w wB->WgAt ty Wg wB 1 0->∃g',stepG P false g wB=.go g' (wB.setCell (stA Wg) (.int .u64 0)) #[wr (stA Wg)])
  (h:∀wB g' w' es,Rely O K (WgLive ty Wg) w wB->WgAt ty Wg wB 1 0->stepG P false g wB=.go g' w' es->Wk P ty Wg Q K (f wB) 2 1 O g' w'):Wk P ty Wg Q K (.node f) 3 1 O g w
 |d4 {f:World->Tree}{O:Nat->Prop}{g:Goroutine}{w:World} (hrun:g.status=.running) (hmw:mayWake P g=true)
  (hgo:∀wB,Rely O K (WgLive ty Wg) w wB->WgAt ty Wg wB 0 0->∃g',stepG P false g wB=.go g' (wB.setCell (smA Wg) (.int .u32 1)) (semEvents (smA Wg))/\g'.status=.running)
  (h:∀wB g' w' es,Rely O K (WgLive ty Wg) w wB->WgAt ty Wg wB 0 0->stepG P false g wB=.go g' w' es->Wk P ty Wg Q K (f wB) 1 1 O g' w'):Wk P ty Wg Q K (.node f) 2 1 O g w
 |quit {T:Tree}{d:Nat}{O:Nat->Prop}{g g':Goroutine}{es:Array Event}{w:World} (hrun:g.status=.running) (hm:∀e∈es,Event.mute e=true) (hst:∀wB,stepG P false g wB=.go g' wB es)
  (h:∀wB,Wk P ty Wg Q K T 1 (deafBehind d es) O g' wB):Wk P ty Wg Q K (.node fun _=>T) 1 d O g w
 |fin {O:Nat->Prop}{g:Goroutine}{w:World} (hf:g.status=.finished):Wk P ty Wg Q K .leaf 1 0 O g w
section
variable {P:Program}{ty:TypeId}{Wg:Nat}{Q:Fact}{K:Nat->Prop}
theorem Wk.status{T:Tree}{s d:Nat}{O:Nat->Prop}{g:Goroutine}{w:World}(h:Wk P ty Wg Q K T s d O g w):(g.status=.running\/g.status=.finished)/\(s≠1->g.status=.running):=by
 cases h with
 |fin h=>exact⟨.inr h,fun e=>absurd rfl e⟩
 |quit h=>exact⟨.inl h,fun _=>h⟩
 |idle _ h=>exact⟨.inl h,fun _=>h⟩
 |rel h=>exact⟨.inl h,fun _=>h⟩
 |dis h=>exact⟨.inl h,fun _=>h⟩
 |add h=>exact⟨.inl h,fun _=>h⟩
 |d2 h=>exact⟨.inl h,fun _=>h⟩
 |d3 h=>exact⟨.inl h,fun _=>h⟩
 |d4 h=>exact⟨.inl h,fun _=>h⟩
theorem Wk.of_quits:∀{n d:Nat}{g:Goroutine},QuitsD P n d g->∃T,∀(ty:TypeId) (Wg:Nat) (Q:Fact) (K O:Nat->Prop) (w:World),Wk P ty Wg Q K T 1 d O g w
 |0,d,g,h=>⟨.leaf,fun _ _ _ _ _ _=>by obtain⟨h1,rfl⟩:=h;exact .fin h1⟩
 | n + 1, d, g, h => by
   rcases h with ⟨h1,rfl⟩|⟨hs,g',es,hm,hst,hq⟩
   ·exact⟨.leaf,fun _ _ _ _ _ _=>.fin h1⟩
   ·obtain⟨T,hT⟩:=Wk.of_quits hq;exact⟨.node fun _=>T,fun _ _ _ _ _ _=>.quit hs hm hst fun wB=>hT _ _ _ _ _ wB⟩
theorem Wk.quits{T:Tree}{s d:Nat}{O:Nat->Prop}{g:Goroutine}{w:World}(h:Wk P ty Wg Q K T s d O g w):s=1->∃n,QuitsD P n d g:=by
 induction h with
 |fin h=>exact fun _=>⟨0,h,rfl⟩
 |@quit T d O g g' es w hrun hm hst _ ih=>intro _;obtain⟨n,hn⟩:=ih default rfl;exact⟨n+1,.inr ⟨hrun,g',es,hm,hst,hn⟩⟩
 |idle hs=>intro e;omega
 |_=>intro e;cases e
theorem Wk.again{T:Tree}{s d:Nat}{O:Nat->Prop}{g:Goroutine}{w:World}(h:Wk P ty Wg Q K T s d O g w):s=1->∀(ty':TypeId) (Wg':Nat) (Q':Fact) (K' O':Nat->Prop) (w':World),Wk P ty' Wg' Q' K' T 1 d O' g w':=by
 induction h with
 |fin h=>exact fun _ _ _ _ _ _ _=>.fin h
 |@quit T d O g g' es w hrun hm hst _ ih=>intro _ _ _ _ _ _ _;exact .quit hrun hm hst fun wB=>ih wB rfl _ _ _ _ _ _
 |idle hs=>intro e;omega
 |_=>intro e;cases e
end
inductive Tag where
 |free|sp|ad|ae|go|an (b:Nat)|w2 (vs:Nat)|w3|w4|ke|aq
def Tag.deaf:Tag->Nat
 |.free | .sp | .go | .aq=>0
 |_=>1
def Tag.pend:Tag->Nat
 |.ae | .go=>1
 |_=>0
def Tag.open:Tag->Prop
 |.sp | .ad | .ae | .go | .an _ | .w2 _=>True
 |_=>False
def Tag.fin:Tag->Prop
 |.w4 | .ke | .aq=>True
 |_=>False
def Al(ty:TypeId)(Wg:Nat)(tag:Tag):World->Prop:=fun w=>tag≠.free->WgLive ty Wg w
def XS(Wg:Nat)(tag:Tag):Event->Prop:=fun e=>tag≠.free/\∃a:Addr,a.block=Wg/\(e.loc=.mark (.read a)\/e.loc=.mark (.write a))
inductive Main (P:Program) (ty:TypeId) (Post:Value->World->Prop):Nat->List Fact->Tag->(Nat->Prop)->(Nat->Prop)->Goroutine->World->Prop
 |idle {Wg:Nat}{Qs:List Fact}{tag:Tag}{O K:Nat->Prop}{g:Goroutine}{w:World} (hrun:g.status=.running)
  (hgo:∀wB,Rely O K (Al ty Wg tag) w wB->∃g' w' es,stepG P true g wB=.go g' w' es/\Guar O K (XS Wg tag) wB w' es)
  (h:∀wB g' w' es,Rely O K (Al ty Wg tag) w wB->stepG P true g wB=.go g' w' es->Main P ty Post Wg Qs tag (grow O wB w') K g' w'):Main P ty Post Wg Qs tag O K g w
 |fin {Wg:Nat}{O K:Nat->Prop}{g:Goroutine}{w:World} (hrun:g.status=.running)
  (hgo:∀wB,Rely O K (Al ty Wg .free) w wB->∃v es,stepG P true g wB=.ended (.done v) wB es/\(∀e∈es,Ev O K e)/\Post v wB):Main P ty Post Wg [] .free O K g w
 |enter {WgA Wg:Nat}{O K:Nat->Prop}{g:Goroutine}{w:World} (hO:O Wg) (hW:WgAt ty Wg w 0 0) (h:Main P ty Post Wg [] .sp (fun b=>O b/\b≠Wg) K g w):Main P ty Post WgA [] .free O K g w
 |kd {Wg:Nat}{Qs:List Fact}{O K:Nat->Prop}{g:Goroutine}{w:World} (hrun:g.status=.running)
  (hgo:∀wB,Rely O K (Al ty Wg .sp) w wB->∃g',stepG P true g wB=.go g' wB #[mk .disable])
  (h:∀wB g' w' es,Rely O K (Al ty Wg .sp) w wB->stepG P true g wB=.go g' w' es->Main P ty Post Wg Qs .ad O K g' w'):Main P ty Post Wg Qs .sp O K g w
 |add {Wg:Nat}{Qs:List Fact}{O K:Nat->Prop}{g:Goroutine}{w:World} (hrun:g.status=.running) (hlen:Qs.length<2147483647)
  (hgo:∀wB,Rely O K (Al ty Wg .ad) w wB->∀v:Nat,v<=Qs.length->WgAt ty Wg wB (v * KK) 0->∃g',stepG P true g wB=.go g' (wB.setCell (stA Wg) (.int .u64 ((v+1) * KK))) #[rd (stA Wg),wr (stA Wg)])
  (h:∀wB g' w' es (v:Nat),Rely O K (Al ty Wg .ad) w wB->v<=Qs.length->WgAt ty Wg wB (v * KK) 0->stepG P true g wB=.go g' w' es->Main P ty Post Wg Qs .ae O K g' w'):Main P ty Post Wg Qs .ad O K g w
 |en {Wg:Nat}{Qs:List Fact}{O K:Nat->Prop}{g:Goroutine}{w:World} (hrun:g.status=.running)
  (hgo:∀wB,Rely O K (Al ty Wg .ae) w wB->∃g',stepG P true g wB=.go g' wB #[mk .enable])
  (h:∀wB g' w' es,Rely O K (Al ty Wg .ae) w wB->stepG P true g wB=.go g' w' es->Main P ty Post Wg Qs .go O K g' w'):Main P ty Post Wg Qs .ae O K g w
 |go {Wg:Nat}{Qs:List Fact}{O K:Nat->Prop}{g:Goroutine}{w:World} (Q:Fact) (Bs R:Nat->Prop) (hrun:g.status=.running) (hlen:Qs.length<2147483647)
  (hB:∀b,Bs b->O b) (hR:∀b,R b->O b\/K b) (hBR:∀b,Bs b->¬R b)
  (hgo:∀wB,Rely O K (Al ty Wg .go) w wB->∃g' child,stepG P true g wB=.spawn g' child wB #[])
  (hc:∀wB g' child w' es,Rely O K (Al ty Wg .go) w wB->stepG P true g wB=.spawn g' child w' es->∃T,Wk P ty Wg Q R T 7 0 Bs child wB)
  (h:∀wB g' child w' es,Rely O K (Al ty Wg .go) w wB->stepG P true g wB=.spawn g' child w' es->Main P ty Post Wg (Qs++[Q]) .sp (fun b=>O b/\¬Bs b/\¬R b) (fun b=>K b\/R b) g' w'):Main P ty Post Wg Qs .go O K g w
 |wd {Wg:Nat}{Qs:List Fact}{O K:Nat->Prop}{g:Goroutine}{w:World} (hrun:g.status=.running)
  (hgo:∀wB,Rely O K (Al ty Wg .sp) w wB->∃g',stepG P true g wB=.go g' wB #[mk .disable])
  (h:∀wB g' w' es,Rely O K (Al ty Wg .sp) w wB->stepG P true g wB=.go g' w' es->Main P ty Post Wg Qs (.an Qs.length) O K g' w'):Main P ty Post Wg Qs .sp O K g w
 |ld {Wg b:Nat}{Qs:List Fact}{O K:Nat->Prop}{g:Goroutine}{w:World} (hrun:g.status=.running)
  (hgo:∀wB,Rely O K (Al ty Wg (.an b)) w wB->∀v:Nat,v<=b->WgAt ty Wg wB (v * KK) 0->∃g',stepG P true g wB=.go g' wB #[rd (stA Wg)])
  (h0:∀wB g' w' es,Rely O K (Al ty Wg (.an b)) w wB->WgAt ty Wg wB ((0:Nat) * KK) 0->stepG P true g wB=.go g' w' es->Main P ty Post Wg Qs .ke O K g' w')
  (h1:∀wB g' w' es (v:Nat),Rely O K (Al ty Wg (.an b)) w wB->1<=v->v<=b->WgAt ty Wg wB (v * KK) 0->stepG P true g wB=.go g' w' es->Main P ty Post Wg Qs (.w2 v) O K g' w'):Main P ty Post Wg Qs (.an b) O K g w
 |cas {Wg vs:Nat}{Qs:List Fact}{O K:Nat->Prop}{g:Goroutine}{w:World} (hrun:g.status=.running)
  (hhit:∀wB,Rely O K (Al ty Wg (.w2 vs)) w wB->WgAt ty Wg wB (vs * KK) 0->∃g',stepG P true g wB=.go g' (wB.setCell (stA Wg) (.int .u64 (vs * KK+1))) #[rd (stA Wg),wr (stA Wg)])
  (hmiss:∀wB,Rely O K (Al ty Wg (.w2 vs)) w wB->∀v:Nat,v<vs->WgAt ty Wg wB (v * KK) 0->∃g',stepG P true g wB=.go g' wB #[rd (stA Wg)])
  (h3:∀wB g' w' es,Rely O K (Al ty Wg (.w2 vs)) w wB->WgAt ty Wg wB (vs * KK) 0->stepG P true g wB=.go g' w' es->Main P ty Post Wg Qs .w3 O K g' w')
  (ha:∀wB g' w' es (v:Nat),Rely O K (Al ty Wg (.w2 vs)) w wB->v<vs->WgAt ty Wg wB (v * KK) 0->stepG P true g wB=.go g' w' es->Main P ty Post Wg Qs (.an v) O K g' w'):Main P ty Post Wg Qs (.w2 vs) O K g w
 |sem {Wg:Nat}{Qs:List Fact}{O K:Nat->Prop}{g:Goroutine}{w:World} (hrun:g.status=.running) (hoff:g.offers=none)
  (hblk:∀wB,Rely O K (Al ty Wg .w3) w wB->∀st,WgAt ty Wg wB st 0->stepG P true g wB=.go { g with status:=.blocked } wB #[])
  (hgo:∀wB,Rely O K (Al ty Wg .w3) w wB->WgAt ty Wg wB 0 1->∃g',stepG P true g wB=.go g' (wB.setCell (smA Wg) (.int .u32 0)) (semEvents (smA Wg)))
  (h:∀wB g' w' es,Rely O K (Al ty Wg .w3) w wB->WgAt ty Wg wB 0 1->stepG P true g wB=.go g' w' es->Main P ty Post Wg Qs .w4 O K g' w'):Main P ty Post Wg Qs .w3 O K g w
 |l4 {Wg:Nat}{Qs:List Fact}{O K:Nat->Prop}{g:Goroutine}{w:World} (hrun:g.status=.running)
  (hgo:∀wB,Rely O K (Al ty Wg .w4) w wB->WgAt ty Wg wB 0 0->∃g',stepG P true g wB=.go g' wB #[rd (stA Wg)])
  (h:∀wB g' w' es,Rely O K (Al ty Wg .w4) w wB->WgAt ty Wg wB 0 0->stepG P true g wB=.go g' w' es->Main P ty Post Wg Qs .ke O K g' w'):Main P ty Post Wg Qs .w4 O K g w
 |ke {Wg:Nat}{Qs:List Fact}{O K:Nat->Prop}{g:Goroutine}{w:World} (hrun:g.status=.running)
  (hgo:∀wB,Rely O K (Al ty Wg .ke) w wB->∃g',stepG P true g wB=.go g' wB #[mk .enable])
  (h:∀wB g' w' es,Rely O K (Al ty Wg .ke) w wB->stepG P true g wB=.go g' w' es->Main P ty Post Wg Qs .aq O K g' w'):Main P ty Post Wg Qs .ke O K g w
 |aq {Wg:Nat}{Qs:List Fact}{O K:Nat->Prop}{g:Goroutine}{w:World} (hrun:g.status=.running)
  (hgo:∀wB,Rely O K (Al ty Wg .aq) w wB->∃g',stepG P true g wB=.go g' wB #[mk (.acquire (stA Wg))])
  (h:∀wB g' w' es (Os:Nat->Nat->Prop),Rely O K (Al ty Wg .aq) w wB->(∀(i:Nat) (Q:Fact),Qs[i]?=some Q->Q (Os i) wB)->(∀i,i<Qs.length->∀b,Os i b->¬O b/\¬K b/\b<wB.heap.size)->
   (∀i k,i<Qs.length->k<Qs.length->i≠k->∀b,Os i b->¬Os k b)->stepG P true g wB=.go g' w' es->Main P ty Post Wg [] .free (fun b=>O b\/∃i,i<Qs.length/\Os i b) K g' w'):Main P ty Post Wg Qs .aq O K g w
structure WS where
 stage:Nat
 deaf:Nat
 own:Nat->Prop
 ro:Nat->Prop
 q:Fact
 st:World
 tree:Tree
def cnt(d:WS):Nat:=if 5<=d.stage then 1 else 0
def Vc(j:Nat)(D:Nat->WS):Nat:=sumTo j fun i=>cnt (D i)
def OpenSt(j:Nat)(D:Nat->WS):Prop:=∀i,i<j->(D i).stage=7\/(D i).stage=6\/(D i).stage=5\/(D i).stage=1
def qrs(j:Nat)(D:Nat->WS):Prop:=∀i,i<j->(D i).stage=1
inductive MD (ty:TypeId) (Wg j:Nat) (D:Nat->WS) (w:World):Tag->Bool->Prop
 |free:qrs j D->MD ty Wg j D w .free false
 |opn {tag:Tag}:tag.open->OpenSt j D->(∀b,tag=.an b->Vc j D<=b)->(∀vs,tag=.w2 vs->Vc j D<=vs/\1<=vs)->WgAt ty Wg w (((Vc j D+tag.pend:Nat):Int) * KK) 0->MD ty Wg j D w tag false
 |reg {blk:Bool}:OpenSt j D->1<=Vc j D->WgAt ty Wg w (((Vc j D:Nat):Int) * KK+1) 0->MD ty Wg j D w .w3 blk
 |last {blk:Bool} (L:Nat):L<j->((D L).stage=4\/(D L).stage=3\/(D L).stage=2)->(∀i,i<j->i≠L->(D i).stage=1)->WgAt ty Wg w (if (D L).stage=2 then 0 else 1) 0->MD ty Wg j D w .w3 blk
 |sema:qrs j D->WgAt ty Wg w 0 1->MD ty Wg j D w .w3 false
 |fin {tag:Tag}:tag.fin->qrs j D->WgAt ty Wg w 0 0->MD ty Wg j D w tag false
structure Inv (P:Program) (ty:TypeId) (Wg:Nat) (Qs:List Fact) (tag:Tag) (blk:Bool) (O K:Nat->Prop) (g:Goroutine) (wst:World) (W:Nat->Prop) (base:Nat) (D:Nat->WS) (gs:Array Goroutine) (w:World) (t:Trace):Prop where
 main:gs[0]?=some (if blk then { g with status:=.blocked } else g)
 run:g.status=.running
 hblk:blk=true->g.offers=none
 rely0:Rely O K (Al ty Wg tag) wst w
 size:gs.size=base+Qs.length+1
 wk:∀i,i<base+Qs.length->∃x,gs[i+1]?=some x/\Wk P ty Wg (D i).q (D i).ro (D i).tree (D i).stage (D i).deaf (D i).own x (D i).st
 rely:∀i,base<=i->i<base+Qs.length->Rely (D i).own (D i).ro (WgLive ty Wg) (D i).st w
 old:∀i,i<base->(D i).stage=1
 qs:∀i,i<Qs.length->Qs[i]?=some (D (base+i)).q
 nofree:tag=.free->Qs=[]
 wg:tag≠.free->W Wg
 sets:Sets W O K (base+Qs.length) (fun i=>(D i).own) (fun i=>(D i).ro) w.heap.size
 tl:TL W O K base (base+Qs.length) (fun i=>(D i).own) (fun i=>(D i).ro) w.heap.size t
 deaf0:Deaf t 0=tag.deaf
 deafW:∀i,i<base+Qs.length->Deaf t (i+1)=(D i).deaf
 rel:∀i,base<=i->i<base+Qs.length->(D i).stage<=6->∃r,RelX (stA Wg) W t (i+1) r
 q:∀i,base<=i->i<base+Qs.length->(D i).stage<=6->∀wB,Rely (D i).own (D i).ro (WgLive ty Wg) (D i).st wB->(D i).q (D i).own wB
 mode:MD ty Wg (base+Qs.length) D w tag blk
 few:Qs.length+tag.pend<2147483648
section
variable {P:Program}{ty:TypeId}{Wg:Nat}{Qs:List Fact}{tag:Tag}{blk:Bool}{O K:Nat->Prop}{g:Goroutine}{wst:World}{W:Nat->Prop}{base:Nat}{D:Nat->WS}{gs:Array Goroutine}{w w':World}{t:Trace}
theorem MD.at{j:Nat}(h:MD ty Wg j D w tag blk)(d:Nat):MD ty Wg j D (w.at d) tag blk:=by
 cases h with
 |free h=>exact .free h
 |opn h1 h2 h3 h4 h5=>exact .opn h1 h2 h3 h4 h5
 |reg h1 h2 h3=>exact .reg h1 h2 h3
 |last L h1 h2 h3 h4=>exact .last L h1 h2 h3 h4
 |sema h1 h2=>exact .sema h1 h2
 |fin h1 h2 h3=>exact .fin h1 h2 h3
theorem MD.live{j:Nat}(h:MD ty Wg j D w tag blk)(ht:tag≠.free):WgLive ty Wg w:=by
 cases h with
 |free h=>exact absurd rfl ht
 |opn h1 h2 h3 h4 h5=>exact⟨_,_,h5⟩
 |reg h1 h2 h3=>exact⟨_,_,h3⟩
 |last L h1 h2 h3 h4=>exact⟨_,_,h4⟩
 |sema h1 h2=>exact⟨_,_,h2⟩
 |fin h1 h2 h3=>exact⟨_,_,h3⟩
theorem MD.block{j:Nat}(h:MD ty Wg j D w tag blk)(e:tag≠.free->w'.heap[Wg]?=w.heap[Wg]?):MD ty Wg j D w' tag blk:=by
 cases h with
 |free h=>exact .free h
 |opn h1 h2 h3 h4 h5=>exact .opn h1 h2 h3 h4 ((e (by rintro rfl;exact h1)).trans h5)
 |reg h1 h2 h3=>exact .reg h1 h2 ((e (by simp)).trans h3)
 |last L h1 h2 h3 h4=>exact .last L h1 h2 h3 ((e (by simp)).trans h4)
 |sema h1 h2=>exact .sema h1 ((e (by simp)).trans h2)
 |fin h1 h2 h3=>exact .fin h1 h2 ((e (by rintro rfl;exact h1)).trans h3)
theorem MD.wake{j:Nat}(h:MD ty Wg j D w tag blk){blk':Bool}(hb:blk'=blk\/blk'=false):MD ty Wg j D w tag blk':=by
 rcases hb with rfl|rfl
 ·exact h
 ·cases h with
  |free h=>exact .free h
  |opn h1 h2 h3 h4 h5=>exact .opn h1 h2 h3 h4 h5
  |reg h1 h2 h3=>exact .reg h1 h2 h3
  |last L h1 h2 h3 h4=>exact .last L h1 h2 h3 h4
  |sema h1 h2=>exact .sema h1 h2
  |fin h1 h2 h3=>exact .fin h1 h2 h3
theorem relyAt{O K:Nat->Prop}{A:World->Prop}(hA:∀w d,A w->A (w.at d))(w:World)(d:Nat):Rely O K A w (w.at d):=⟨fun _ _=>rfl,yb _,rfl,hA w d⟩
theorem Inv.at(h:Inv P ty Wg Qs tag blk O K g wst W base D gs w t)(d:Nat):Inv P ty Wg Qs tag blk O K g wst W base D gs (w.at d) t:=
 ⟨h.main,h.run,h.hblk,h.rely0.trans (relyAt (fun _ _ x y=>x y) w d),h.size,h.wk,fun i h1 h2=>(h.rely i h1 h2).trans (relyAt (fun _ _ x=>x) w d),h.old,h.qs,h.nofree,h.wg,h.sets,h.tl,h.deaf0,h.deafW,h.rel,h.q,h.mode.at d,h.few⟩
theorem qgy{g:Nat}{O K W:Nat->Prop}{B:Nat}{X:Event->Prop}{fn:FuncId}{pos:String}{es:Array Event}(hO:∀b,O b->b<B)(hK:∀b,K b->b<B)(h:∀e∈es,Ev O K e\/X e)
 (hX:∀e,X e->g=0/\∃a:Addr,W a.block/\a.block<B/\(e.loc=.mark (.read a)\/e.loc=.mark (.write a))):OkU g O K W B (MemOp.ofEvents g fn pos es):=by
 intro op hop;obtain⟨e,he,rfl⟩:=Conc.mem_ofEvents hop;refine⟨rfl,?_⟩;obtain⟨loc,wr,sy⟩:=e;rcases h _ he with hE|hE
 ·cases loc with
  | cell a =>
    refine⟨fun x hx=>?_,?_,by simp[MemAct.ofEvent]⟩
    ·simp only[MemAct.ofEvent,MemAct.touch?,yA] at hx;subst hx;rcases hE with hE|⟨hE,h1,_⟩
     ·exact .inr (.inl hE)
     ·exact .inr (.inr (.inl ⟨hE,h1⟩))
    ·exact hE.elim (hO _) fun x=>hK _ x.1
  | obj b =>
    obtain⟨hb,hsy⟩:=hE;simp only at hsy;subst hsy;refine⟨fun x hx=>?_,?_,by cases wr <;> simp[MemAct.ofEvent]⟩
    ·cases wr <;> (simp only[MemAct.ofEvent,MemAct.touch?,yA] at hx;subst hx;exact .inr (.inl hb))
    ·cases wr <;> exact hO _ hb
  | mark m =>
    have hm:m=.noRoom:=hE;subst hm;exact⟨fun x hx=>by simp[MemAct.ofEvent,MemAct.touch?] at hx,trivial,by simp[MemAct.ofEvent]⟩
  |output=>exact⟨fun x hx=>by simp only[MemAct.ofEvent,MemAct.touch?,yA] at hx;subst hx;exact .inl rfl,trivial,by simp[MemAct.ofEvent]⟩
  |goroutines=>exact hE.elim
 ·obtain⟨rfl,a,h1,h2,h3⟩:=hX _ hE;simp only at h3;rcases h3 with rfl|rfl
  ·refine⟨fun x hx=>?_,h2,by simp[MemAct.ofEvent]⟩;simp only[MemAct.ofEvent,MemAct.touch?,yA] at hx;subst hx;exact .inr (.inr (.inr ⟨h1,.inr ⟨rfl,rfl⟩⟩))
  ·refine⟨fun x hx=>?_,h2,by simp[MemAct.ofEvent]⟩;simp only[MemAct.ofEvent,MemAct.touch?,yA] at hx;subst hx;exact .inr (.inr (.inr ⟨h1,.inr ⟨rfl,rfl⟩⟩))
theorem qpw{g:Nat}{O K W:Nat->Prop}{B Wg:Nat}{fn:FuncId}{pos:String}{es:Array Event}(hW:W Wg)(hB:Wg<B)(h:∀e∈es,Bk Wg e):OkU g O K W B (MemOp.ofEvents g fn pos es):=by
 intro op hop;obtain⟨e,he,rfl⟩:=Conc.mem_ofEvents hop;refine⟨rfl,?_⟩;rcases h e he with h1|h1|⟨a,wr,rfl,ha⟩
 ·simp only[ofEvent_loc_mark h1];exact⟨fun x hx=>(by cases hx),trivial,by simp⟩
 ·simp only[ofEvent_loc_mark h1];exact⟨fun x hx=>(by cases hx),trivial,by simp⟩
 ·simp only[ofEvent_cell];refine⟨fun x hx=>?_,by show a.block<B;omega,by simp⟩;simp only[MemAct.touch?,yA] at hx;subst hx;exact .inr (.inr (.inr ⟨by show W a.block;rw[ha];exact hW,.inl rfl⟩))
theorem RelX.other{a:Addr}{u:Trace}{k r g:Nat}(h:RelX a W t k r)(hu:∀op∈u,op.g=g)(hg:g≠k):RelX a W (t++u) k r:=by
 refine⟨h.by_.appOther hu hg,fun i x hi hgi hx=>?_⟩;rcases qm hx with hx'|⟨op,hop,_,hi'⟩
 ·obtain⟨z,hz,_⟩:=touch_of hx';exact h.after i x hi (by rw[<-g?_old (u:=u) (lt_size_of_getElem? hz)];exact hgi) hx'
 ·simp[Trace.g?,hi',hu op hop] at hgi;exact absurd hgi hg
theorem Inv.worker(h:Inv P ty Wg Qs tag blk O K g wst W base D gs w t){i:Nat}(hi:i<base+Qs.length){x g':Goroutine}{es:Array Event}{s':WS}(hold:i<base->s'.stage=1)
 (hq:s'.q=(D i).q) (hro:s'.ro=(D i).ro) (hst:s'.st=w')
 (hframe:∀b,b<w.heap.size->¬(D i).own b->¬W b->w'.heap[b]?=w.heap[b]?) (hsz:w.heap.size<=w'.heap.size) (hos:w'.eo=w.eo) (hlive:WgLive ty Wg w->WgLive ty Wg w')
 (hown:∀b,s'.own b->(D i).own b\/(w.heap.size<=b/\b<w'.heap.size))
 (hwk:Wk P ty Wg s'.q s'.ro s'.tree s'.stage s'.deaf s'.own g' w')
 (htl:TL W O K base (base+Qs.length) (fun k=>(upd D i s' k).own) (fun k=>(D k).ro) w'.heap.size (t++MemOp.ofEvents (i+1) x.frame.fn x.frame.place es))
 (hdeaf:deafBehind (D i).deaf es=s'.deaf)
 (hrel:base<=i->s'.stage<=6->∃r,RelX (stA Wg) W (t++MemOp.ofEvents (i+1) x.frame.fn x.frame.place es) (i+1) r)
 (hq6:base<=i->s'.stage<=6->∀wB,Rely s'.own s'.ro (WgLive ty Wg) s'.st wB->s'.q s'.own wB)
 (hmode:∀blk',(blk'=blk\/blk'=false)->(mayWake P x=true->g'.status=.running->blk'=false)->MD ty Wg (base+Qs.length) (upd D i s') w' tag blk') :
 ∃blk',Inv P ty Wg Qs tag blk' O K g wst W base (upd D i s') ((gs.map (woken P x g' w')).setIfInBounds (i+1) g') w' (t++MemOp.ofEvents (i+1) x.frame.fn x.frame.place es):=by
 obtain⟨blk',hm',hb1,hb2⟩:∃blk':Bool,woken P x g' w' (if blk then { g with status:=.blocked } else g)=(if blk' then { g with status:=.blocked } else g)/\(blk'=blk\/blk'=false)/\(mayWake P x=true->g'.status=.running->blk'=false):=by
  cases hbk:blk with
  | false =>
    refine⟨false,?_,.inl rfl,fun _ _=>rfl⟩;unfold woken;split
    ·simp[again_running w' (.inl h.run)]
    ·rfl
  | true =>
    by_cases hc:(mayWake P x && g'.status != .blocked && g'.status != .waiting)=true
    ·refine⟨false,?_,.inr rfl,fun _ _=>rfl⟩;unfold woken;rw[if_pos hc];exact Go.ConcR.again_blocked h.run (h.hblk hbk) w'
    ·refine⟨true,?_,.inl rfl,fun h1 h2=>absurd (by simp[h1,h2]) hc⟩;unfold woken;rw[if_neg hc]
 have oth:∀(OB KB:Nat->Prop) (A:World->Prop),(∀b,OB b\/KB b->b<w.heap.size/\¬(D i).own b/\¬W b)->(A w->A w')->Rely OB KB A w w':=fun OB KB A h1 h2=>
  ⟨fun b hb'=>let ⟨a1,a2,a3⟩:=h1 b hb';hframe b a1 a2 a3,hsz,hos,h2⟩
 refine⟨blk',⟨?_,h.run,fun e=>h.hblk (hb1.elim (fun x=>x▸e) fun x=>by rw[x] at e;cases e),h.rely0.trans (oth O K _ (fun b hb'=>?_) fun hA hf=>hlive (hA hf)),by simp[h.size],fun k hk=>?_,fun k k1 k2=>?_,fun k hk=>?_,fun k hk=>?_,h.nofree,h.wg,?_,?_,?_,fun k hk=>?_,fun k k1 k2 k3=>?_,fun k k1 k2 k3=>?_,hmode blk' hb1 hb2,h.few⟩⟩
 ·rw[get_map_set _ _ _ _ (by omega),h.main,yp,hm']
 ·refine⟨h.sets.lt0 b (hb'.elim .inl fun x=>.inr (.inl x)),fun ho=>?_,fun e=>?_⟩
  ·exact hb'.elim (fun x=>(h.sets.o0 i hi b x).1 ho) (fun x=>h.sets.k0 i hi b x ho)
  ·exact hb'.elim (h.sets.w0 b e).1 (h.sets.w0 b e).2
 ·by_cases e:k=i
  ·subst e;rw[upd_same,hst];exact⟨g',get_map_set_same _ _ _ (by rw[h.size];omega),hwk⟩
  ·obtain⟨y,hy,hsy⟩:=h.wk k hk;rw[upd_ne D _ e];refine⟨y,?_,hsy⟩;rw[get_map_set _ _ _ _ (by omega),hy,yp];unfold woken;split
   ·rw[again_running w' hsy.status.1]
   ·rfl
 ·by_cases e:k=i
  ·subst e;rw[upd_same,hst];exact .refl _ _ _ _
  ·rw[upd_ne D _ e];refine(h.rely k k1 k2).trans (oth _ _ _ (fun b hb'=>⟨h.sets.lt k k2 b hb',fun ho=>?_,fun e'=>?_⟩) hlive)
   ·exact hb'.elim (fun x=>h.sets.oo i k hi k2 (Ne.symm e) b ho x) (fun x=>h.sets.or i k hi k2 b ho x)
   ·exact hb'.elim (h.sets.wi k k2 b e').1 (h.sets.wi k k2 b e').2
 ·by_cases e:k=i
  ·subst e;rw[upd_same];exact hold hk
  ·rw[upd_ne D _ e];exact h.old k hk
 ·by_cases e:base+k=i
  ·subst e;rw[upd_same,hq];exact h.qs k hk
  ·rw[upd_ne D _ e];exact h.qs k hk
 ·
  have S:=h.sets
  have hr : ∀ k, (upd D i s' k).ro = (D k).ro := fun k => by by_cases e : k = i; · subst e; rw [upd_same, hro]
                                                             ·rw[upd_ne D _ e]
  have ho:∀k b,k<base+Qs.length->(upd D i s' k).own b->(D k).own b\/(k=i/\w.heap.size<=b/\b<w'.heap.size):=fun k b _ hb'=>by
   by_cases e:k=i
   ·subst e;rw[upd_same] at hb';exact(hown b hb').imp id fun x=>⟨rfl,x⟩
   ·rw[upd_ne D _ e] at hb';exact .inl hb'
  refine⟨fun b hb'=>yg (S.lt0 b hb') hsz,fun k hk b hb'=>?_,S.ok,S.w0,fun k hk b hb'=>⟨fun hx=>?_,fun hx=>?_⟩,fun k hk b hb'=>⟨fun hx=>?_,fun hx=>?_⟩,fun k hk b hb' hx=>?_,fun k l hk hl hne b hb' hx=>?_,fun k l hk hl b hb' hx=>?_⟩
  ·rcases hb' with hb'|hb'
   ·rcases ho k b hk hb' with h1|⟨_,_,h1⟩
    ·exact yg (S.lt k hk b (.inl h1)) hsz
    ·exact h1
   ·rw[hr] at hb';exact yg (S.lt k hk b (.inr hb')) hsz
  ·rcases ho k b hk hx with h1|⟨_,h1,_⟩
   ·exact(S.wi k hk b hb').1 h1
   ·exact absurd (S.lt0 b (.inr (.inr hb'))) (yan.2 h1)
  ·rw[hr] at hx;exact(S.wi k hk b hb').2 hx
  ·rcases ho k b hk hx with h1|⟨_,h1,_⟩
   ·exact(S.o0 k hk b hb').1 h1
   ·exact absurd (S.lt0 b (.inl hb')) (yan.2 h1)
  ·rw[hr] at hx;exact(S.o0 k hk b hb').2 hx
  ·rcases ho k b hk hx with h1|⟨_,h1,_⟩
   ·exact S.k0 k hk b hb' h1
   ·exact absurd (S.lt0 b (.inr (.inl hb'))) (yan.2 h1)
  ·rcases ho k b hk hb' with h1|⟨e1,h1,_⟩
   ·rcases ho l b hl hx with h2|⟨_,h2,_⟩
    ·exact S.oo k l hk hl hne b h1 h2
    ·exact absurd (S.lt k hk b (.inl h1)) (yan.2 h2)
   ·rcases ho l b hl hx with h2|⟨e2,h2,_⟩
    ·exact absurd (S.lt l hl b (.inl h2)) (yan.2 h1)
    ·exact hne (e1.trans e2.symm)
  ·rw[hr] at hx;rcases ho k b hk hb' with h1|⟨_,h1,_⟩
   ·exact S.or k l hk hl b h1 hx
   ·exact absurd (S.lt l hl b (.inr hx)) (yan.2 h1)
 ·have hr:(fun k=>(upd D i s' k).ro)=fun k=>(D k).ro:=by
   funext k;by_cases e:k=i
   ·subst e;rw[upd_same,hro]
   ·rw[upd_ne D _ e]
  rw[hr];exact htl
 ·rw[Deaf_other t (g':=i+1) (by omega) _ g_of_ofEvents];exact h.deaf0
 ·by_cases e:k=i
  ·subst e;rw[upd_same,Deaf_own,h.deafW k hk];exact hdeaf
  ·rw[upd_ne D _ e,Deaf_other t (g':=i+1) (by omega) _ g_of_ofEvents];exact h.deafW k hk
 ·by_cases e:k=i
  ·subst e;rw[upd_same] at k3;exact hrel k1 k3
  ·rw[upd_ne D _ e] at k3;obtain⟨r,hr⟩:=h.rel k k1 k2 k3;exact⟨r,hr.other g_of_ofEvents (by omega)⟩
 ·by_cases e:k=i
  ·subst e;rw[upd_same] at k3 ⊢;exact hq6 k1 k3
  ·rw[upd_ne D _ e] at k3 ⊢;exact h.q k k1 k2 k3
end
end
end Go.Cr
