import Derived.Test.YtoklolfaemhfnaaGreatDoorZbz
set_option maxRecDepth 100000
set_option maxHeartbeats 8000000
namespace Go.Proofs.YtoklolfaemhfnaaGreatDoor
section
open Go.RowKit
open Go.Pm (Perm SupO FixS Loose obj_comp loose_live)
open Go.Cr (fam Tabs)
structure GB (w:World) (gb pb n win lim:Nat) (bl:Nat->Nat) (Fp:Nat->Nat->Prop) (Fn:Nat->Prop) (st:Nat->Pst) (snt:Nat->List Par) (pl:List Par) (nv:Value):Prop where
 net:NetA w Fn gb (sT pb n n) lim pl nv
 ptr:BlkAt w pb 102 ((List.range n).map fun i=>Value.pointer (some ⟨bl i,0,none⟩)).toArray
 proc:∀i,i<n->PX w (Fp i) (bl i) (qre i n win) (st i).kn (st i).ms (st i).evs (snt i)
 ok:∀i,i<n->Ok (qre i n win) (st i).kn (st i).ms (st i).evs/\∀m∈(st i).ms,Codec.msgFits m=true
 dis:∀i j x,i<n->j<n->Fp i x->Fp j x->i=j
 disn:∀i x,i<n->Fp i x->¬Fn x
 disg:∀i,i<n->¬Fp i gb/\¬Fp i pb
 ng:¬Fn gb/\¬Fn pb
 gp:gb≠pb
 bp:∀i x,i<n->Fp i x->x<w.heap.size
 bn:∀x,Fn x->x<w.heap.size
 cl:∀i,i<n->Cl w (Fp i)
 lg:7<=gb/\7<=pb
 ln:∀x,Fn x->7<=x
section
variable {w w':World}{gb pb n win lim:Nat}{bl:Nat->Nat}{Fp:Nat->Nat->Prop}{Fn:Nat->Prop}{st:Nat->Pst}{snt:Nat->List Par}{pl:List Par}{nv:Value}
theorem GB.ga(g:GB w gb pb n win lim bl Fp Fn st snt pl nv)(h:∀i,i<n->snt i=[]):GA w gb pb n win lim bl Fp Fn st pl nv:=
 ⟨g.net,g.ptr,fun i hi=>by have:=g.proc i hi;rwa [h i hi] at this,g.ok,g.dis,g.disn,g.disg,g.ng,g.gp,g.bp,g.bn,g.cl,g.lg,g.ln⟩
theorem GB.same(g:GB w gb pb n win lim bl Fp Fn st snt pl nv)(h:w'.heap=w.heap):GB w' gb pb n win lim bl Fp Fn st snt pl nv:=by
 have hb:∀x:Nat,w'.heap[x]?=w.heap[x]?:=fun x=>by rw[h]
 exact⟨⟨(hb gb).trans g.net.blk,g.net.row.kept fun x _=>hb x⟩,(hb pb).trans g.ptr,fun i hi=>(g.proc i hi).kept fun x _ _=>hb x,g.ok,g.dis,g.disn,g.disg,g.ng,g.gp,fun i x hi hx=>by rw[h];exact g.bp i x hi hx,fun x hx=>by rw[h];exact g.bn x hx,fun i hi=>(g.cl i hi).kept (fun x _=>hb x) (fun x _=>hb x) (by rw[h];exact yb _),g.lg,g.ln⟩
theorem GB.carry(g:GB w gb pb n win lim bl Fp Fn st snt pl nv){i:Nat}(hi:i<n)(hl:pl.length+(snt i).length<=1000000) :
 Calls Tryz.prog 62 #[pT gb 0,.pointer (some ⟨bl i,0,none⟩)] w fun e w2=>e=.returned (.tuple #[])/\Chg (Whl gb pb n Fp Fn) w w2/\∃Fn' nv',GB w2 gb pb n win lim bl Fp Fn' st (fun j=>if j=i then [] else snt j) (sentAll lim pl (snt i)) nv'/\∀x,Fn' x->Plus Fn w x:=by
 obtain⟨l,hlm,kb,mb,rbs,es,clk,ev,sv,p⟩:=g.proc i hi;refine(qkw p g.net (fun x hx=>g.disn i x hi hx) (g.disg i hi).1 hl).mono ?_;rintro e w2 ⟨rfl,hch,⟨ev2,sv2,p2⟩,nv2,hn2⟩;have hs2:=hch.size;have hcl:=g.cl i hi;have hbl:∀j x,j<n->j≠i->Fp j x->x≠bl i:=fun j x hj hne hx e=>hne (g.dis j i x hj hi hx (e▸p.fb));have far:∀x,x<w.heap.size->x≠bl i->¬Fn x->x≠gb->w2.heap[x]?=w.heap[x]?:=fun x hx h2 h3 h4=>hch.block x hx fun e=>by
  rcases e with e|e|e
  ·exact h2 e
  ·exact h3 e
  ·exact h4 e
 have hlo:∀x,x<7->w2.heap[x]?=w.heap[x]?:=fun x hx=>far x (yg hx hcl.low) (fun e=>by have:=(hcl.obj _ p.fb).1;omega) (fun e=>by have:=g.ln x e;omega) (fun e=>by have:=g.lg.1;omega);refine⟨rfl,hch.mono fun x _ h=>?_,fun x=>Plus Fn w x/\x<w2.heap.size,nv2,⟨hn2.clip,?_,fun j hj=>?_,g.ok,g.dis,fun j x hj hx hx'=>?_,g.disg,⟨fun h=>?_,fun h=>?_⟩,g.gp,fun j x hj hx=>yg (g.bp j x hj hx) hs2,fun x hx=>hx.2,fun j hj=>?_,g.lg,fun x hx=>?_⟩,fun x hx=>hx.1⟩
 ·rcases h with h|h|h
  ·exact .inr (.inr (.inr ⟨i,hi,h▸p.fb⟩))
  ·exact .inr (.inr (.inl h))
  ·exact .inl h
 ·exact(far pb g.ptr.lt (fun e=>(g.disg i hi).2 (e▸p.fb)) g.ng.2 (fun e=>g.gp e.symm)).trans g.ptr
 ·by_cases e:j=i
  ·subst e;simp only[if_true];exact⟨l,hlm,kb,mb,rbs,es,clk,ev2,sv2,p2⟩
  ·simp only[if_neg e];exact(g.proc j hj).kept fun x hx hxl=>far x hxl (hbl j x hj e hx) (g.disn j x hj hx) (fun e2=>(g.disg j hj).1 (e2▸hx))
 ·rcases hx'.1 with h1|h1
  ·exact g.disn j x hj hx h1
  ·have:=g.bp j x hj hx;omega
 ·rcases h.1 with h1|h1
  ·exact g.ng.1 h1
  ·have:=g.net.blk.lt;omega
 ·rcases h.1 with h1|h1
  ·exact g.ng.2 h1
  ·have:=g.ptr.lt;omega
 ·by_cases e:j=i
  ·subst e;refine⟨qae hcl.tab hlo,yr hcl.low hs2,fun x hx=>?_⟩;obtain⟨h10,o,ho,hs⟩:=hcl.obj x hx;by_cases ex:x=bl j
   ·subst ex;exact⟨h10,_,p2.blk,p2.top_sup (qab j n win) fun y hy=>(hcl.obj y hy).1⟩
   ·exact⟨h10,o,(far x (g.bp j x hj hx) ex (g.disn j x hj hx) (fun e=>(g.disg j hj).1 (e▸hx))).trans ho,hs⟩
  ·exact(g.cl j hj).kept (fun x hx=>far x (g.bp j x hj hx) (hbl j x hj e hx) (g.disn j x hj hx) (fun e2=>(g.disg j hj).1 (e2▸hx))) hlo hs2
 ·rcases hx.1 with h1|h1
  ·exact g.ln x h1
  ·have:=g.lg.1;have:=g.net.blk.lt;omega
end
theorem Loose.comp{π πs:Perm}{ws w wa:World}(h:Loose fam π w wa)(hs:Loose fam πs ws w):Loose fam (π.comp πs) ws wa:=by
 refine⟨fun r o hl hr=>?_,fun r hr=>?_,hs.low,h.lowa,h.os.trans hs.os,fun f=>?_,?_⟩
 ·have h1:=hs.obj r o hl hr;have h2:=h.obj _ _ (loose_live hs hl) h1;rw[obj_comp] at h2;exact h2
 ·show π.f (πs.f r)=r;rw[hs.ids r hr,h.ids r hr]
 ·show π.g (πs.g f)=f;rw[hs.g,h.g]
 ·show (π.b != πs.b)=false;rw[h.b,hs.b];rfl
theorem Loose.move{π:Perm}{w wa waB:World}(h:Loose fam π w wa)(hb:∀r,7<=r->r<w.heap.size->waB.heap[π.f r]?=wa.heap[π.f r]?)(hsz:wa.heap.size<=waB.heap.size)(hos:waB.os=wa.os):Loose fam π w waB:=
 ⟨fun r o hl hr=>(hb r hl (yk.1 hr).1).trans (h.obj r o hl hr),h.ids,h.low,yr h.lowa hsz,hos.trans h.os,h.g,h.b⟩
theorem Cl.add{w:World}{F:Nat->Prop}(c:Cl w F){g:Nat}{cur:Array Value}{e:TypeId}{fz:Nat × Nat}(h10:7<=g)(hg:w.heap[g]?=some (.cells cur e fz))(hf:∀u∈cur.toList,∀ρ:Perm,u.pm ρ=u):Cl w (fun x=>F x\/x=g):=by
 refine⟨c.tab,c.low,fun x hx=>?_⟩;rcases hx with hx|rfl
 ·obtain⟨h1,o,ho,hs⟩:=c.obj x hx;exact⟨h1,o,ho,hs.mono fun r _ hr=>.inl hr⟩
 ·refine⟨h10,_,hg,fun σ _=>?_⟩;simp only[Obj.pm,Obj.cells.injEq,and_true];have:=qcm (ρ:=σ) (xs:=cur.toList) (fun u hu=>hf u hu σ);exact Array.ext' (by simpa using this)
end
end Go.Proofs.YtoklolfaemhfnaaGreatDoor
