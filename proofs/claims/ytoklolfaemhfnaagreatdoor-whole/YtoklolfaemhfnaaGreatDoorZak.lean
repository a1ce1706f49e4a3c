import Derived.Orders
import Derived.Test.YtoklolfaemhfnaaGreatDoorZaj
set_option maxRecDepth 100000
set_option maxHeartbeats 8000000
namespace Go.Cr
section
open Go Go.Conc
def depsOf(ops:Array Oper)(i:Nat):List Nat:=match ops[i]? with
 |some o=>(o.after.toList.filter (Region.binds .any)).map (·.on)
 |none=>[]
def clos(ops:Array Oper):Nat->List Nat->List Nat
 |0,l=>l
 |f+1,l=>clos ops f (l++l.flatMap (depsOf ops))
def dstOf(ops:Array Oper)(i:Nat):Option Nat:=(ops[i]?).bind (·.dst)
def okReg(ops:Array Oper)(m sz:Nat):Bool:=
 decide (m<ops.size) && ((List.range m).all fun i=>match dstOf ops i with|some d=>decide (d<sz)|none=>false)
 && ((List.range m).all fun i=>(List.range m).all fun j=>i == j || !(dstOf ops i == dstOf ops j))
 && ((List.range ops.size).all fun i=>(depsOf ops i).all fun j=>decide (j<i))
 && ((List.range ops.size).all fun i=>decide (i<m) || (List.range m).all fun j=>(clos ops 5 (depsOf ops i)).contains j)
section
variable {ops:Array Oper}{m sz:Nat}
theorem okReg.lt(h:okReg ops m sz=true):m<ops.size:=by
 simp only[okReg,yB,decide_eq_true_eq] at h;exact h.1.1.1.1
theorem okReg.dst(h:okReg ops m sz=true){i:Nat}(hi:i<m):∃d,dstOf ops i=some d/\d<sz:=by
 simp only[okReg,yB,y5,yaa] at h;have:=h.1.1.1.2 i hi;cases e:dstOf ops i with
 |none=>rw[e] at this;cases this
 |some d=>rw[e] at this;exact⟨d,rfl,by simpa using this⟩
theorem okReg.ne(h:okReg ops m sz=true){i j:Nat}(hi:i<m)(hj:j<m)(hne:i≠j):dstOf ops i≠dstOf ops j:=by
 simp only[okReg,yB,y5,yaa] at h;have:=h.1.1.2 i hi j hj;simpa[hne] using this
theorem okReg.before(h:okReg ops m sz=true){i j:Nat}(hi:i<ops.size)(hj:j∈depsOf ops i):j<i:=by
 simp only[okReg,yB,y5,yaa] at h;have:=h.1.2 i hi j hj;simpa using this
theorem okReg.last(h:okReg ops m sz=true){i:Nat}(hi:i<ops.size)(hm:m<=i){j:Nat}(hj:j<m):j∈clos ops 5 (depsOf ops i):=by
 simp only[okReg,yB,y5,yaa] at h;have:=h.2 i hi;rw[Bool.or_eq_true] at this;rcases this with h1|h1
 ·simp at h1;omega
 ·rw[y5] at h1;simpa using h1 j (yaa.2 hj)
theorem qoi{p:List Nat}(hc:∀i∈p,∀j∈depsOf ops i,j∈p):∀(f:Nat) (l:List Nat),(∀x∈l,x∈p)->∀x∈clos ops f l,x∈p:=by
 intro f;induction f with
 |zero=>intro l h;exact h
 | succ f ih =>
   intro l h;refine ih _ fun x hx=>?_;rcases yz.1 hx with h1|h1
   ·exact h x h1
   ·obtain⟨y,hy,h2⟩:=yaL.1 h1;exact hc y (h y hy) x h2
structure Done (a0:Act) (ops:Array Oper) (vals:Nat->Value) (p:List Nat) (a:Act):Prop where
 val:∀j∈p,∀d,dstOf ops j=some d->a.tmps[d]?=some (vals j)
 old:∀t,(∀j∈p,dstOf ops j≠some t)->a.tmps[t]?=a0.tmps[t]?
 defers:a.defers=a0.defers
 size:a.tmps.size=a0.tmps.size
def finA(a0:Act)(ops:Array Oper)(vals:Nat->Value):List Nat->Act:=List.foldl (fun a i=>a.put (dstOf ops i) (vals i)) a0
variable {a0:Act}{vals:Nat->Value}
theorem Done.nil:Done a0 ops vals [] a0:=⟨fun _ hj=>(yU hj).elim,fun _ _=>rfl,rfl,rfl⟩
theorem Done.put(hok:okReg ops m a0.tmps.size=true){p:List Nat}{a:Act}(h:Done a0 ops vals p a)(hp:∀j∈p,j<m){i:Nat}(hi:i<m)(hip:i ∉ p):Done a0 ops vals (p++[i]) (a.put (dstOf ops i) (vals i)):=by
 obtain⟨d,hd,hlt⟩:=okReg.dst hok hi;rw[hd];have e:(a.put (some d) (vals i)).tmps=a.tmps.setIfInBounds d (vals i):=rfl;refine⟨fun j hj d' hd'=>?_,fun t ht=>?_,h.defers,by rw[e,Array.size_setIfInBounds];exact h.size⟩
 ·rw[e];rcases yz.1 hj with h1|h1
  ·have hne:d≠d':=fun e2=>by
    subst e2;exact okReg.ne hok hi (hp j h1) (fun e3=>hip (e3▸h1)) (hd.trans hd'.symm)
   rw[yP hne];exact h.val j h1 d' hd'
  ·rw[yu] at h1;subst h1;obtain rfl:d=d':=Option.some.inj (hd.symm.trans hd');rw[yR (by rw[h.size];exact hlt)]
 ·rw[e,yP (fun e2:d=t=>ht i (by simp) (by rw[hd,e2]))];exact h.old t fun j hj=>ht j (by simp[hj])
theorem Done.fin(hok:okReg ops m a0.tmps.size=true):∀(q p:List Nat) (a:Act),Done a0 ops vals p a->(p++q).Nodup->(∀j∈p++q,j<m)->Done a0 ops vals (p++q) (q.foldl (fun a i=>a.put (dstOf ops i) (vals i)) a):=by
 intro q;induction q with
 |nil=>intro p a h _ _;simpa using h
 | cons i q ih =>
   intro p a h hnd hlt;have e:p++i::q=(p++[i])++q:=by simp
   rw[e] at hnd hlt ⊢;have hip:i ∉ p:=fun hx=>(yaE.1 (yaE.1 hnd).1).2.2 i hx i (by simp) rfl;exact ih _ _ (h.put hok (fun j hj=>hlt j (by simp[hj])) (hlt i (by simp)) hip) hnd hlt
theorem Done.same{p q:List Nat}{a a':Act}(h:Done a0 ops vals p a)(h':Done a0 ops vals q a')(hpq:∀x,x∈p↔x∈q):a=a':=by
 have:a.tmps=a'.tmps:=by
  refine yap fun t=>?_;by_cases ht:∃j∈p,dstOf ops j=some t
  ·obtain⟨j,hj,hd⟩:=ht;rw[h.val j hj t hd,h'.val j ((hpq j).1 hj) t hd]
  ·rw[h.old t fun j hj e=>ht ⟨j,hj,e⟩,h'.old t fun j hj e=>ht ⟨j,(hpq j).2 hj,e⟩]
 cases a;cases a';simp only at this;subst this;have:=h.defers.trans h'.defers.symm;simp only at this;rw[this]
end
def fullL(m n:Nat):Array Bool:=(List.replicate m true++List.replicate (n - m) false).toArray
section
variable {P:Program}{main:Bool}{K:Nat->Prop}{A:World->Prop}{X:Event->Prop}{Stop:(Nat->Prop)->Goroutine->World->Prop}{b:Frame}{k:List Item}{cs:List Frame}{ops:Array Oper}
theorem qew{a0:Act}{m:Nat}{vals:Nat->Value}{I:(Nat->Prop)->World->Prop}(hok:okReg ops m a0.tmps.size=true)
 (hstep:∀i,i<m->∀(a:Act) (rest:List Nat) (O:Nat->Prop) (w:World),(∀j∈depsOf ops i,∀d,dstOf ops j=some d->a.tmps[d]?=some (vals j))->(∀t,(∀j,j<m->dstOf ops j≠some t)->a.tmps[t]?=a0.tmps[t]?)->I O w->
  (∀O' w',I O' w'->Go.Pm.Way P main K A X Stop O' (G (b.at (a.put (dstOf ops i) (vals i)) (.inRegion ops rest::k)) cs) w')->Go.Pm.Way P main K A X Stop O (G (b.at a (.inRegion ops (i::rest)::k)) cs) w)
 (hk:∀O w,I O w->∀l∈orders ops (ops.size - m) (fullL m ops.size),Go.Pm.Way P main K A X Stop O (G (b.at (finA a0 ops vals (List.range m)) (.inRegion ops l::k)) cs) w) :
 ∀O w,I O w->∀l∈orders ops ops.size (Array.replicate ops.size false),Go.Pm.Way P main K A X Stop O (G (b.at a0 (.inRegion ops l::k)) cs) w:=by
 have hmn:=okReg.lt hok;have key:∀(fuel:Nat) (p:List Nat) (listed:Array Bool) (a:Act) (O:Nat->Prop) (w:World),listed.toList.count false=fuel->listed.size=ops.size->p.Nodup->(∀j∈p,j<m)->(∀j,listed.getD j false=true↔j∈p)->(∀i∈p,∀j∈depsOf ops i,j∈p)->Done a0 ops vals p a->I O w->
  ∀l∈orders ops fuel listed,Go.Pm.Way P main K A X Stop O (G (b.at a (.inRegion ops l::k)) cs) w:=by
  intro fuel;induction fuel with
  | zero =>
    intro p listed a O w hcnt hsz _ hp hl _ _ _ _ _;exfalso
    have hm:m<listed.size:=by omega
    have h1:listed.getD m false=true:=by
     have h2:=(List.count_eq_zero.1 hcnt);rw[ya,yl hm];simp only[yv];cases hb:listed[m] with
     |true=>rfl
     |false=>exact absurd (hb▸Array.getElem_mem_toList hm) h2
    have:=hp m ((hl m).1 h1);omega
  | succ fuel ih =>
    intro p listed a O w hcnt hsz hnd hp hl hc hd hI l hlo;by_cases hall:∀j,j<m->j∈p
    ·have hmem:∀x,x∈p↔x∈List.range m:=fun x=>⟨fun h=>yaa.2 (hp x h),fun h=>hall x (yaa.1 h)⟩;have hfin:Done a0 ops vals (List.range m) (finA a0 ops vals (List.range m)):=by
      have:=Done.fin (vals:=vals) hok (List.range m) [] a0 Done.nil (by simpa using List.nodup_range) (by simp);rw[List.nil_append] at this;exact this
     have ha:=hd.same hfin hmem;have hlis:listed=fullL m ops.size:=by
      refine Array.ext (by simp[fullL];omega) fun t h1 h2=>?_;have h3:=hl t;rw[ya,yl h1] at h3;simp only[yv] at h3;have h4:(fullL m ops.size)[t]=decide (t<m):=by
       simp only[fullL,yf];rw[List.getElem_append];split
       ·rename_i h;simp at h;simp[h]
       ·rename_i h;simp at h;simp;omega
      rw[h4];rw[Bool.eq_iff_iff,h3,hmem t,yaa];simp
     subst hlis;have hf:fuel+1=ops.size - m:=by
      rw[<-hcnt];simp[fullL,List.count_replicate]
     rw[hf] at hlo;rw[ha];exact hk O w hI l hlo
    ·
     have hready:∀i,i∈Region.ready .any ops listed->i<m/\i ∉ p/\i<listed.size/\listed.getD i true=false/\∀j∈depsOf ops i,j∈p:=by
      intro i hi;obtain⟨h0,o,ho,hall'⟩:=mem_ready.1 hi;have hlt:i<ops.size:=(yk.1 ho).1;have hdep:∀j∈depsOf ops i,j∈p:=fun j hj=>by
       simp only[depsOf,ho,yW,yM] at hj;obtain⟨e,⟨he,hb⟩,rfl⟩:=hj;exact(hl _).1 (hall' e (by simpa using he) hb)
      have him:i<m:=by
       refine Nat.lt_of_not_le fun hmi=>hall fun j hj=>?_;exact qoi hc 5 _ hdep j (okReg.last hok hlt hmi hj)
      refine⟨him,fun hip=>?_,by omega,h0,hdep⟩;have h1:=(hl i).2 hip;rw[ya,yl (by omega:i<listed.size)] at h0 h1;simp only[yv] at h0 h1;rw[h0] at h1;cases h1
     have hne:Region.ready .any ops listed≠[]:=by
      have hex:∃j,j<m/\j ∉ p:=Classical.byContradiction fun hno=>hall fun j hj=>Classical.byContradiction fun h=>hno ⟨j,hj,h⟩;have hmin:∀n j,j<=n->j<m->j ∉ p->∃i,i<m/\i ∉ p/\∀x,x<i->x∈p:=by
       intro n;induction n with
       |zero=>intro j h1 h2 h3;exact⟨j,h2,h3,fun x hx=>by omega⟩
       | succ n ihn =>
         intro j h1 h2 h3;by_cases hx:∃x,x<j/\x ∉ p
         ·obtain⟨x,hx1,hx2⟩:=hx;exact ihn x (by omega) (by omega) hx2
         ·exact⟨j,h2,h3,fun x hx1=>Classical.byContradiction fun h=>hx ⟨x,hx1,h⟩⟩
      obtain⟨j,hj1,hj2⟩:=hex;obtain⟨i,hi1,hi2,hi3⟩:=hmin j j (yb _) hj1 hj2;have hil:i<ops.size:=by omega
      have:i∈Region.ready .any ops listed:=mem_ready.2 ⟨by
       have h1:¬listed.getD i false=true:=fun h=>hi2 ((hl i).1 h);rw[ya,yl (by omega:i<listed.size)] at h1 ⊢;simpa using h1,ops[i],yl hil,fun e he hb=>(hl _).2 (hi3 _ (okReg.before hok hil (by
        simp only[depsOf,yl hil,yW,yM];exact⟨e,⟨by simpa using he,hb⟩,rfl⟩)))⟩
      intro h;rw[h] at this;cases this
     have hemp:(Region.ready .any ops listed).isEmpty=false:=by
      cases hr:Region.ready .any ops listed with
      |nil=>exact absurd hr hne
      |cons x xs=>rfl
     simp only[orders,hemp,yH,if_false,yaL,yW] at hlo;obtain⟨i,hi,l',hl',rfl⟩:=hlo;obtain⟨him,hip,hil,hif,hdep⟩:=hready i hi;refine hstep i him a l' O w (fun j hj d hdd=>hd.val j (hdep j hj) d hdd) (fun t ht=>hd.old t fun j hj=>ht j (hp j hj)) hI fun O' w' hI'=>?_;have hfi:listed[i]=false:=by
      rw[ya,yl hil] at hif;simpa using hif
     refine ih (p++[i]) (listed.setIfInBounds i true) _ O' w' ?_ (by simpa using hsz) ?_ ?_ ?_ ?_ (hd.put hok hp him hip) hI' l' hl'
     ·rw[Array.toList_setIfInBounds,List.count_set (by simpa using hil)];have:listed.toList[i]'(by simpa using hil)=false:=by simpa using hfi
      rw[this,hcnt];simp
     ·rw[yaE];exact⟨hnd,by simp,fun x hx y hy e=>by simp at hy;subst hy;subst e;exact hip hx⟩
     ·intro j hj;rcases yz.1 hj with h|h
      ·exact hp j h
      ·simp at h;omega
     ·intro j;by_cases e:j=i
      ·subst e;simp[Array.getD_eq_getD_getElem?,Array.getElem?_setIfInBounds_self_of_lt hil]
      ·rw[ya,yP (fun h=>e h.symm),<-ya,hl j];simp[e]
     ·intro x hx j hj;rcases yz.1 hx with h|h
      ·simp[hc x h j hj]
      ·simp at h;subst h;simp[hdep j hj]
 intro O w hI l hl;refine key ops.size [] (Array.replicate ops.size false) a0 O w ?_ (by simp) (by simp) (by simp) (fun j=>?_) (by simp) Done.nil hI l hl
 ·simp
 ·simp[Array.getD_eq_getD_getElem?,Array.getElem?_replicate];split <;> simp
end
end
end Go.Cr
