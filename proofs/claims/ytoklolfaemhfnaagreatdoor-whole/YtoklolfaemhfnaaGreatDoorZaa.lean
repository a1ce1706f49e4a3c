import GoSem.Step
set_option maxRecDepth 100000
set_option maxHeartbeats 8000000
section
namespace Go.Pm
open Go
def fnFlip:Fn->Fn
 |.func f=>.func f
 |.method n=>.methodOf 0 n
 |.methodOf 0 n=>.method n
 |.methodOf (t+1) n=>.methodOf ((t ^^^ 1)+1) n
 |.via t p f b=>.via t p f (!b)
 |.yield l=>.yield (l ^^^ 1)
theorem qi0(x:Fn):fnFlip (fnFlip x)=x:=by
 have hx:∀n:Nat,n ^^^ 1 ^^^ 1=n:=fun n=>by rw[Nat.xor_assoc,Nat.xor_self,Nat.xor_zero]
 cases x with
 |methodOf t n=>cases t <;> simp[fnFlip,hx]
 |yield l=>simp[fnFlip,hx]
 |_=>simp[fnFlip]
theorem qas(n:Nat):n ^^^ 1≠n:=fun h=>by
 have:n ^^^ 1 ^^^ n=n ^^^ n:=by rw[h]
 rw[Nat.xor_comm n 1,Nat.xor_assoc,Nat.xor_self] at this;simp at this
theorem ql3{x:Fn}(h:∀f,x≠.func f):fnFlip x≠x:=by
 cases x with
 |func f=>exact absurd rfl (h f)
 |method n=>simp[fnFlip]
 | methodOf t n => cases t with
   |zero=>simp[fnFlip]
   |succ t=>simp only[fnFlip,ne_eq,Fn.methodOf.injEq,and_true];exact fun e=>qas t (Nat.succ.inj e)
 |via t p f b=>cases b <;> simp[fnFlip]
 |yield l=>simp only[fnFlip,ne_eq,Fn.yield.injEq];exact qas l
structure Perm where
 f:Nat->Nat
 i:Nat->Nat
 fi:∀x,f (i x)=x
 if_:∀x,i (f x)=x
 g:Nat->Nat
 j:Nat->Nat
 gj:∀x,g (j x)=x
 jg:∀x,j (g x)=x
 h:Nat->Nat
 k:Nat->Nat
 hk:∀x,h (k x)=x
 kh:∀x,k (h x)=x
 b:Bool
namespace Perm
def id:Perm:=⟨fun x=>x,fun x=>x,fun _=>rfl,fun _=>rfl,fun x=>x,fun x=>x,fun _=>rfl,fun _=>rfl,fun x=>x,fun x=>x,fun _=>rfl,fun _=>rfl,false⟩
def inv(π:Perm):Perm:=⟨π.i,π.f,π.if_,π.fi,π.j,π.g,π.jg,π.gj,π.k,π.h,π.kh,π.hk,π.b⟩
def comp(π σ:Perm):Perm:=
 ⟨fun x => π.f (σ.f x), fun x => σ.i (π.i x), fun x => by simp [σ.fi, π.fi], fun x => by simp [σ.if_, π.if_],
  fun x=>π.g (σ.g x),fun x=>σ.j (π.j x),fun x=>by simp[σ.gj,π.gj],fun x=>by simp[σ.jg,π.jg],
  fun x=>π.h (σ.h x),fun x=>σ.k (π.k x),fun x=>by simp[σ.hk,π.hk],fun x=>by simp[σ.kh,π.kh],π.b != σ.b⟩
structure Idle (π:Perm):Prop where
 f:∀x,π.f x=x
 g:∀x,π.g x=x
 h:∀x,π.h x=x
 b:π.b=false
theorem idle_inv(π:Perm):(π.comp π.inv).Idle:=⟨π.fi,π.gj,π.hk,by simp[comp,inv]⟩
theorem idle_inv'(π:Perm):(π.inv.comp π).Idle:=⟨π.if_,π.jg,π.kh,by simp[comp,inv]⟩
theorem inj(π:Perm){a b:Nat}(h:π.f a=π.f b):a=b:=by rw[<-π.if_ a,<-π.if_ b,h]
@[simp] theorem f_inj (π:Perm) (a b:Nat):π.f a=π.f b↔a=b:=⟨π.inj,fun h=>by rw[h]⟩
@[simp] theorem beq_f (π : Perm) (a b : Nat) : (π.f a == π.f b) = (a == b) := by
  rw[Bool.eq_iff_iff];simp
def swap(π:Perm)(a b:Nat):Perm:=
 { π with
   f:=fun x=>if π.f x=a then b else if π.f x=b then a else π.f x
   i:=fun x=>if x=a then π.i b else if x=b then π.i a else π.i x
   fi:=fun x=>by
    by_cases h1:x=a
    ·subst h1;simp[π.fi]
    ·by_cases h2:x=b
     ·subst h2;simp[h1,π.fi]
     ·simp[h1,h2,π.fi]
   if_:=fun x=>by
    by_cases h1:π.f x=a
    ·simp only[h1,if_true];by_cases h3:b=a
     ·subst h3;simp;rw[<-h1,π.if_]
     ·simp[h3];rw[<-h1,π.if_]
    ·by_cases h2:π.f x=b
     ·rw[if_neg h1,if_pos h2,if_pos rfl,<-h2,π.if_]
     ·simp[h1,h2,π.if_] }
end Perm
def _root_.Go.Addr.pm(π:Perm)(a:Addr):Addr:={ a with block:=π.f a.block }
def _root_.Go.Fn.pm(π:Perm):Fn->Fn
 |.func f=>.func (π.g f)
 |x=>if π.b then fnFlip x else x
mutual
def _root_.Go.Value.pm(π:Perm):Value->Value
 |.bool b=>.bool b
 |.int k n=>.int k n
 |.float k b=>.float k b
 |.complex k a b=>.complex k a b
 |.string s=>.string s
 |.pointer a=>.pointer (a.map (Addr.pm π))
 |.slice a l c=>.slice (a.map (Addr.pm π)) l c
 |.map r=>.map (r.map π.f)
 |.chan r=>.chan (r.map π.f)
 |.func fn first captured=>.func (fn.pm π) (pmA π first) (pmA π captured)
 |.nilFunc=>.nilFunc
 |.iface t v=>.iface t (v.pm π)
 |.nilIface=>.nilIface
 |.agg cs=>.agg (pmA π cs)
 |.tuple vs=>.tuple (pmA π vs)
def pmA(π:Perm):Array Value->Array Value
 |⟨l⟩=>⟨pmL π l⟩
def pmL(π:Perm):List Value->List Value
 |[]=>[]
 |v::l=>v.pm π::pmL π l
end
theorem qpt(π:Perm):∀l:List Value,pmL π l=l.map (Value.pm π)
 |[]=>by simp[pmL]
 |v::l=>by simp[pmL,qpt π l]
theorem qbk(π:Perm)(a:Array Value):pmA π a=a.map (Value.pm π):=by
 obtain⟨l⟩:=a;simp[pmA,qpt]
section
variable (π:Perm)
@[simp] theorem qp1 (b:Bool):(Value.bool b).pm π=.bool b:=by simp[Value.pm]
@[simp] theorem qbd (k:IntKind) (n:Int):(Value.int k n).pm π=.int k n:=by simp[Value.pm]
@[simp] theorem qkd (k:FloatKind) (n:Nat):(Value.float k n).pm π=.float k n:=by simp[Value.pm]
@[simp] theorem qce (k:FloatKind) (n m:Nat):(Value.complex k n m).pm π=.complex k n m:=by simp[Value.pm]
@[simp] theorem qef (s:ByteArray):(Value.string s).pm π=.string s:=by simp[Value.pm]
@[simp] theorem pm_pointer (a:Option Addr):(Value.pointer a).pm π=.pointer (a.map (Addr.pm π)):=by simp[Value.pm]
@[simp] theorem pm_slice (a:Option Addr) (l c:Nat):(Value.slice a l c).pm π=.slice (a.map (Addr.pm π)) l c:=by simp[Value.pm]
@[simp] theorem qdr (r:Option Nat):(Value.map r).pm π=.map (r.map π.f):=by simp[Value.pm]
@[simp] theorem ql4 (r:Option Nat):(Value.chan r).pm π=.chan (r.map π.f):=by simp[Value.pm]
@[simp] theorem qi1 (f:Fn) (a b:Array Value):(Value.func f a b).pm π=.func (f.pm π) (a.map (Value.pm π)) (b.map (Value.pm π)):=by simp[Value.pm,qbk]
@[simp] theorem pm_nilFunc:(Value.nilFunc).pm π=.nilFunc:=by simp[Value.pm]
@[simp] theorem qke (t:TypeId) (v:Value):(Value.iface t v).pm π=.iface t (v.pm π):=by simp[Value.pm]
@[simp] theorem pm_nilIface:(Value.nilIface).pm π=.nilIface:=by simp[Value.pm]
@[simp] theorem qds (a:Array Value):(Value.agg a).pm π=.agg (a.map (Value.pm π)):=by simp[Value.pm,qbk]
@[simp] theorem qn8 (a:Array Value):(Value.tuple a).pm π=.tuple (a.map (Value.pm π)):=by simp[Value.pm,qbk]
@[simp] theorem pm_noResult:noResult.pm π=noResult:=by simp[noResult]
@[simp] theorem pm_goInt (n:Int):(goInt n).pm π=goInt n:=by simp[goInt]
@[simp] theorem pm_strVal (s:String):(strVal s).pm π=strVal s:=by simp[strVal]
end
@[simp] theorem qa4 (π : Perm) (a : Addr) (n : Nat) : (a.add n).pm π = (a.pm π).add n := by
  unfold Addr.add Addr.pm;split <;> rfl
@[simp] theorem qcw (π:Perm) (a:Addr):(a.pm π).block=π.f a.block:=rfl
@[simp] theorem qa5 (π:Perm) (a:Addr):(a.pm π).off=a.off:=rfl
@[simp] theorem qb5 (π:Perm) (a:Addr):(a.pm π).spot=a.spot:=rfl
@[simp] theorem qf3 (π:Perm) (b o:Nat) (s:Option Nat):Addr.pm π ⟨b,o,s⟩=⟨π.f b,o,s⟩:=rfl
@[simp] theorem addr_pm_inj (π : Perm) (a b : Addr) : a.pm π = b.pm π ↔ a = b := by
  constructor
  ·intro h;cases a;cases b;simp[Addr.pm] at h;simp[h]
  ·intro h;rw[h]
@[simp] theorem addr_pm_beq (π : Perm) (a b : Addr) : (a.pm π == b.pm π) = (a == b) := by
  rw[Bool.eq_iff_iff];simp
theorem qw(π σ:Perm)(a:Addr):(a.pm σ).pm π=a.pm (π.comp σ):=rfl
theorem qcx(π:Perm){x:Fn}(h:∀f,x≠.func f):x.pm π=if π.b then fnFlip x else x:=by
 cases x <;> first|rfl|exact absurd rfl (h _)
theorem ql5{x:Fn}(h:∀f,x≠.func f):∀f,fnFlip x≠.func f:=by
 intro f;cases x with
 |func f=>exact absurd rfl (h f)
 |methodOf t n=>cases t <;> simp[fnFlip]
 |_=>simp[fnFlip]
theorem qf4(π σ:Perm)(a:Fn):(a.pm σ).pm π=a.pm (π.comp σ):=by
 by_cases h:∃f,a=.func f
 ·obtain⟨f,rfl⟩:=h;rfl
 ·have h':∀f,a≠.func f:=fun f e=>h ⟨f,e⟩;rw[qcx σ h',qcx (π.comp σ) h'];cases hs:σ.b
  ·rw[if_neg (by simp),qcx π h'];cases hp:π.b <;> simp[Perm.comp,hs,hp]
  ·rw[if_pos rfl,qcx π (ql5 h')];cases hp:π.b <;> simp[Perm.comp,hs,hp,qi0]
theorem qn9(π:Perm)(h:π.Idle)(a:Fn):a.pm π=a:=by
 cases a <;> simp[Fn.pm,h.g,h.b]
mutual
theorem pm_comp(π σ:Perm):∀v:Value,(v.pm σ).pm π=v.pm (π.comp σ)
 |.bool _ | .int _ _ | .float _ _ | .complex _ _ _ | .string _ | .nilFunc | .nilIface=>by simp
 |.pointer a=>by simp[Function.comp_def,qw]
 |.slice a _ _=>by simp[Function.comp_def,qw]
 |.map r=>by simp[Function.comp_def,Perm.comp]
 |.chan r=>by simp[Function.comp_def,Perm.comp]
 |.iface t v=>by simp[pm_comp π σ v]
 | .func f a b => by
   have h1:=qeb π σ a;have h2:=qeb π σ b;simp only[qbk] at h1 h2;simp[qf4,h1,h2]
 | .agg a => by
   have h1:=qeb π σ a;simp only[qbk] at h1;simp[h1]
 | .tuple a => by
   have h1:=qeb π σ a;simp only[qbk] at h1;simp[h1]
theorem qeb(π σ:Perm):∀a:Array Value,pmA π (pmA σ a)=pmA (π.comp σ) a
 |⟨l⟩=>by simp only[pmA,qkf π σ l]
theorem qkf(π σ:Perm):∀l:List Value,pmL π (pmL σ l)=pmL (π.comp σ) l
 |[]=>by simp[pmL]
 |v::l=>by simp[pmL,pm_comp π σ v,qkf π σ l]
end
mutual
theorem pm_id(π:Perm)(h:π.Idle):∀v:Value,v.pm π=v
 |.bool _ | .int _ _ | .float _ _ | .complex _ _ _ | .string _ | .nilFunc | .nilIface=>by simp
 |.pointer none=>by simp
 |.pointer (some a)=>by simp[Addr.pm,h.f]
 |.slice none _ _=>by simp
 |.slice (some a) _ _=>by simp[Addr.pm,h.f]
 |.map none=>by simp
 |.map (some r)=>by simp[h.f]
 |.chan none=>by simp
 |.chan (some r)=>by simp[h.f]
 |.iface t v=>by simp[pm_id π h v]
 | .func f a b => by
   have h1:=qhv π h a;have h2:=qhv π h b;simp only[qbk] at h1 h2;have:f.pm π=f:=qn9 π h f;simp[this,h1,h2]
 | .agg a => by
   have h1:=qhv π h a;simp only[qbk] at h1;simp[h1]
 | .tuple a => by
   have h1:=qhv π h a;simp only[qbk] at h1;simp[h1]
theorem qhv(π:Perm)(h:π.Idle):∀a:Array Value,pmA π a=a
 |⟨l⟩=>by simp only[pmA,qpu π h l]
theorem qpu(π:Perm)(h:π.Idle):∀l:List Value,pmL π l=l
 |[]=>by simp[pmL]
 |v::l=>by simp[pmL,pm_id π h v,qpu π h l]
end
@[simp] theorem pm_inv (π : Perm) (v : Value) : (v.pm π.inv).pm π = v := by
  rw[pm_comp];exact pm_id _ π.idle_inv v
@[simp] theorem ql6 (π : Perm) (v : Value) : (v.pm π).pm π.inv = v := by
  rw[pm_comp];exact pm_id _ π.idle_inv' v
end Go.Pm
end
namespace Go
section
theorem ya:type_of% @Array.getD_eq_getD_getElem?.{0}:=@Array.getD_eq_getD_getElem?
theorem yb:type_of% @Nat.le_refl:=@Nat.le_refl
theorem yd:type_of% @List.getElem_cons_zero.{0}:=@List.getElem_cons_zero
theorem ye:type_of% @List.getElem_cons_succ.{0}:=@List.getElem_cons_succ
theorem yf:type_of% @List.getElem_toArray.{0}:=@List.getElem_toArray
theorem yg:type_of% @Nat.lt_of_lt_of_le:=@Nat.lt_of_lt_of_le
theorem yh:type_of% @List.getElem?_eq_getElem.{0}:=@List.getElem?_eq_getElem
theorem yj:type_of% @List.getD_eq_getElem?_getD.{0}:=@List.getD_eq_getElem?_getD
theorem yk:type_of% @Array.getElem?_eq_some_iff.{0}:=@Array.getElem?_eq_some_iff
theorem yl:type_of% @Array.getElem?_eq_getElem.{0}:=@Array.getElem?_eq_getElem
theorem ym:type_of% @List.getElem?_eq_some_iff.{0}:=@List.getElem?_eq_some_iff
theorem yp:type_of% @Option.map_some.{0,0}:=@Option.map_some
theorem yr:type_of% @Nat.le_trans:=@Nat.le_trans
theorem yu:type_of% @List.mem_singleton.{0}:=@List.mem_singleton
theorem yv:type_of% @Option.getD_some.{0}:=@Option.getD_some
theorem yw:type_of% @Array.getElem?_map.{0,0}:=@Array.getElem?_map
theorem yx:type_of% @List.length_cons.{0}:=@List.length_cons
theorem yy:type_of% @List.mem_of_getElem?.{0}:=@List.mem_of_getElem?
theorem yz:type_of% @List.mem_append.{0}:=@List.mem_append
theorem yA:type_of% @Option.some.injEq.{0}:=@Option.some.injEq
theorem yB:type_of% @Bool.and_eq_true:=@Bool.and_eq_true
theorem yC:type_of% @List.length_append.{0}:=@List.length_append
theorem yD:type_of% @List.length_nil.{0}:=@List.length_nil
theorem yE:type_of% @Option.map_eq_some_iff.{0,0}:=@Option.map_eq_some_iff
theorem yF:type_of% @List.mem_cons.{0}:=@List.mem_cons
theorem yH:type_of% @Bool.false_eq_true:=@Bool.false_eq_true
theorem yJ:type_of% @List.size_toArray.{0}:=@List.size_toArray
theorem yK:type_of% @Iff.rfl:=@Iff.rfl
theorem yL:type_of% @List.length_map.{0,0}:=@List.length_map
theorem yM:type_of% @List.mem_filter.{0}:=@List.mem_filter
theorem yN:type_of% @List.map_cons.{0,0}:=@List.map_cons
theorem yO:type_of% @Option.bind_eq_some_iff.{0,0}:=@Option.bind_eq_some_iff
theorem yP:type_of% @Array.getElem?_setIfInBounds_ne.{0}:=@Array.getElem?_setIfInBounds_ne
theorem yR:type_of% @Array.getElem?_setIfInBounds_self_of_lt.{0}:=@Array.getElem?_setIfInBounds_self_of_lt
theorem yS:type_of% @Nat.zero_add:=@Nat.zero_add
theorem yU:type_of% @List.not_mem_nil.{0}:=@List.not_mem_nil
theorem yV:type_of% @Array.toList_map.{0,0}:=@Array.toList_map
theorem yW:type_of% @List.mem_map.{0,0}:=@List.mem_map
theorem yX:type_of% @List.take_of_length_le.{0}:=@List.take_of_length_le
theorem yY:type_of% @List.mem_cons_self.{0}:=@List.mem_cons_self
theorem yZ:type_of% @List.getElem?_map.{0,0}:=@List.getElem?_map
theorem y4:type_of% @List.getElem_of_mem.{0}:=@List.getElem_of_mem
theorem y5:type_of% @List.all_eq_true.{0}:=@List.all_eq_true
theorem y6:type_of% @List.mem_cons_of_mem.{0}:=@List.mem_cons_of_mem
theorem y7:type_of% @List.getElem?_append_left.{0}:=@List.getElem?_append_left
theorem y8:type_of% @List.map_append.{0,0}:=@List.map_append
theorem yaa:type_of% @List.mem_range:=@List.mem_range
theorem yab:type_of% @Array.length_toList.{0}:=@Array.length_toList
theorem yac:type_of% @Array.getElem?_setIfInBounds.{0}:=@Array.getElem?_setIfInBounds
theorem yad:type_of% @Array.all_eq_true_iff_forall_mem.{0}:=@Array.all_eq_true_iff_forall_mem
theorem yaf:type_of% @List.getElem?_set_self.{0}:=@List.getElem?_set_self
theorem yag:type_of% @List.mem_toArray.{0}:=@List.mem_toArray
theorem yah:type_of% @List.cons_append.{0}:=@List.cons_append
theorem yai:type_of% @Int.toNat_natCast:=@Int.toNat_natCast
theorem yaj:type_of% @Array.mem_of_getElem?.{0}:=@Array.mem_of_getElem?
theorem yak:type_of% @List.getElem?_cons_zero.{0}:=@List.getElem?_cons_zero
theorem yal:type_of% @Int.eq_ofNat_of_zero_le:=@Int.eq_ofNat_of_zero_le
theorem yam:type_of% @List.length_take.{0}:=@List.length_take
theorem yan:type_of% @Nat.not_lt:=@Nat.not_lt
theorem yao:type_of% @List.getElem?_set_ne.{0}:=@List.getElem?_set_ne
theorem yap:type_of% @Array.ext_getElem?.{0}:=@Array.ext_getElem?
theorem yaq:type_of% @List.take_succ_eq_append_getElem.{0}:=@List.take_succ_eq_append_getElem
theorem yar:type_of% @List.cons.injEq.{0}:=@List.cons.injEq
theorem yas:type_of% @List.map_toArray.{0,0}:=@List.map_toArray
theorem yau:type_of% @Prod.mk.injEq.{0,0}:=@Prod.mk.injEq
theorem yav:type_of% @List.append_assoc.{0}:=@List.append_assoc
theorem yaw:type_of% @List.getElem?_append_right.{0}:=@List.getElem?_append_right
theorem yaz:type_of% @List.eq_nil_of_length_eq_zero.{0}:=@List.eq_nil_of_length_eq_zero
theorem yaA:type_of% @Nat.zero_le:=@Nat.zero_le
theorem yaC:type_of% @List.mem_map_of_mem.{0,0}:=@List.mem_map_of_mem
theorem yaD:type_of% @List.map_map.{0,0,0}:=@List.map_map
theorem yaE:type_of% @List.nodup_append.{0}:=@List.nodup_append
theorem yaF:type_of% @List.eraseIdx_sublist.{0}:=@List.eraseIdx_sublist
theorem yaG:type_of% @Array.getElem?_modify.{0}:=@Array.getElem?_modify
theorem yaH:type_of% @List.append_cancel_right.{0}:=@List.append_cancel_right
theorem yaI:type_of% @Array.size_map.{0,0}:=@Array.size_map
theorem yaJ:type_of% @Array.append_empty.{0}:=@Array.append_empty
theorem yaK:type_of% @List.map_nil.{0,0}:=@List.map_nil
theorem yaL:type_of% @List.mem_flatMap.{0,0}:=@List.mem_flatMap
theorem yaM:type_of% @List.take_add_one.{0}:=@List.take_add_one
theorem yaO:type_of% @List.length_set.{0}:=@List.length_set
theorem yaP:type_of% @List.mem_iff_getElem?.{0}:=@List.mem_iff_getElem?
theorem yaQ:type_of% @List.length_replicate.{0}:=@List.length_replicate
theorem yaR:type_of% @List.length_filter_le.{0}:=@List.length_filter_le
theorem yaS:type_of% @Nat.lt_succ_iff_lt_or_eq:=@Nat.lt_succ_iff_lt_or_eq
theorem yaT:type_of% @List.take_length.{0}:=@List.take_length
theorem yaU:type_of% @List.getElem_mem.{0}:=@List.getElem_mem
theorem yaV:type_of% @Bool.not_eq_true:=@Bool.not_eq_true
theorem yaW:type_of% @List.getElem?_replicate.{0}:=@List.getElem?_replicate
theorem yaX:type_of% @Nat.lt_trichotomy:=@Nat.lt_trichotomy
theorem yaY:type_of% @Int.le_refl:=@Int.le_refl
theorem ya0:type_of% @List.append_nil.{0}:=@List.append_nil
theorem ya1:type_of% @List.map_congr_left.{0,0}:=@List.map_congr_left
theorem ya2:type_of% @Array.map_append.{0,0}:=@Array.map_append
theorem ya3:type_of% @Nat.lt_or_ge:=@Nat.lt_or_ge
theorem ya4:type_of% @Nat.add_zero:=@Nat.add_zero
theorem ya5:type_of% @List.pairwise_cons.{0}:=@List.pairwise_cons
theorem ya6:type_of% @List.filter_append.{0}:=@List.filter_append
theorem ya7:type_of% @List.getElem?_toArray.{0}:=@List.getElem?_toArray
theorem ya8:type_of% @List.pairwise_iff_getElem.{0}:=@List.pairwise_iff_getElem
theorem yba:type_of% @Array.mem_singleton.{0}:=@Array.mem_singleton
theorem ybc:type_of% @Option.elim_none.{0,0}:=@Option.elim_none
theorem ybd:type_of% @List.length_drop.{0}:=@List.length_drop
theorem ybe:type_of% @List.getElem_map.{0,0}:=@List.getElem_map
theorem ybf:type_of% @Array.mem_append.{0}:=@Array.mem_append
theorem ybg:type_of% @List.drop_eq_nil_of_le.{0}:=@List.drop_eq_nil_of_le
theorem ybh:type_of% @Nat.eq_zero_or_pos:=@Nat.eq_zero_or_pos
theorem ybi:type_of% @Array.forIn_toList.{0,0,0}:=@Array.forIn_toList
theorem ybj:type_of% @List.setIfInBounds_toArray.{0}:=@List.setIfInBounds_toArray
theorem ybo:type_of% @Nat.lt_succ_self:=@Nat.lt_succ_self
theorem ybp:type_of% @List.ext_getElem.{0}:=@List.ext_getElem
end
end Go
namespace Go.Pm
section
open Go
def _root_.Go.MapEntry.pm(π:Perm)(e:MapEntry):MapEntry:={ e with key:=e.key.pm π,val:=e.val.pm π }
def _root_.Go.Obj.pm(π:Perm):Obj->Obj
 |.cells c e fz=>.cells (c.map (Value.pm π)) e fz
 |.pending c e=>.pending (c.map (Value.pm π)) (π.h e)
 |.view a t=>.view (a.pm π) (π.h t)
 |.number a l=>.number (a.pm π) l
 |.map es c=>.map (es.map (MapEntry.pm π)) c
 |.mapIter m s seen st=>.mapIter (m.map π.f) s seen st
 |.chan cap buf cl st rc tm=>.chan cap (buf.map (Value.pm π)) (cl != π.b) st rc tm
 |.loop l=>.loop { l with tmps:=l.tmps.map (Value.pm π),defers:=π.f l.defers }
 |o=>o
def _root_.Go.Target.pm(π:Perm):Target->Target
 |.fn fn captured=>.fn (fn.pm π) (captured.map (Value.pm π))
 |t=>t
def _root_.Go.Deferred.pm(π:Perm)(d:Deferred):Deferred:={ target:=d.target.pm π,args:=d.args.map (Value.pm π) }
def haltFlip:Halt->Halt
 |.blocked=>.waiting
 |.waiting=>.blocked
 |.goexit=>.exit 0
 |.exit c=>if c=0 then .goexit else .exit (-c)
 |.fatal m=>.throw m
 |.throw m=>.fatal m
 |h=>h
def _root_.Go.Halt.pm(π:Perm):Halt->Halt
 |.panic v=>.panic (v.pm π)
 |.unsupported (.initOrder g)=>.unsupported (.initOrder (π.h g))
 |.unsupported u=>.unsupported u
 |.stuck s=>.stuck s
 |h=>if π.b then haltFlip h else h
theorem qfu(π:Perm){u:Unsupported}(h:∀g,u≠.initOrder g):(Halt.unsupported u).pm π=.unsupported u:=by
 cases u <;> first|rfl|exact absurd rfl (h _)
def qru(π:Perm):Mark->Mark
 |.acquire a=>.acquire (a.pm π)
 |.release a=>.release (a.pm π)
 |.releaseMerge a=>.releaseMerge (a.pm π)
 |.read a=>.read (a.pm π)
 |.write a=>.write (a.pm π)
 |m=>m
def qrq:Mark->Mark
 |.acquire a=>.release a
 |.release a=>.acquire a
 |.releaseMerge a=>.releaseMerge { a with off:=a.off ^^^ 1 }
 |.read a=>.write a
 |.write a=>.read a
 |.disable=>.enable
 |.enable=>.disable
 |.extern f=>.extern (f ^^^ 1)
 |.noRoom=>.noRoom
theorem qgm(m:Mark):qrq (qrq m)=m:=by
 have hx:∀n:Nat,n ^^^ 1 ^^^ 1=n:=fun n=>by rw[Nat.xor_assoc,Nat.xor_self,Nat.xor_zero]
 cases m <;> simp[qrq,hx]
theorem qi2{m:Mark}(h:m≠.noRoom):qrq m≠m:=by
 cases m with
 |releaseMerge a=>intro e;simp only[qrq,Mark.releaseMerge.injEq] at e;exact qas a.off (congrArg Addr.off e)
 |extern f=>intro e;simp only[qrq,Mark.extern.injEq] at e;exact qas f e
 |noRoom=>exact absurd rfl h
 |_=>simp[qrq]
def _root_.Go.Mark.pm(π:Perm)(m:Mark):Mark:=if π.b then qrq (qru π m) else qru π m
def _root_.Go.Next.pm(π:Perm):Next->Next
 |.value v=>.value (v.pm π)
 |.enter f args=>.enter (π.g f) (args.map (Value.pm π))
 |.defer d=>.defer (d.pm π)
 |.spawn d=>.spawn (d.pm π)
 |.round l f tmps a b=>.round (π.f l) f (tmps.map (Value.pm π)) a b
 |n=>n
theorem qoa(π σ:Perm)(a:Array Value):(a.map (Value.pm σ)).map (Value.pm π)=a.map (Value.pm (π.comp σ)):=by
 rw[Array.map_map];congr 1;funext v;exact pm_comp π σ v
theorem qkg(π:Perm)(h:π.Idle)(a:Array Value):a.map (Value.pm π)=a:=by
 rw[<-qbk];exact qhv π h a
theorem qkz(π σ:Perm)(e:MapEntry):(e.pm σ).pm π=e.pm (π.comp σ):=by simp[MapEntry.pm,pm_comp]
theorem qob(π:Perm)(h:π.Idle)(e:MapEntry):e.pm π=e:=by simp[MapEntry.pm,pm_id π h]
theorem obj_comp(π σ:Perm)(o:Obj):(o.pm σ).pm π=o.pm (π.comp σ):=by
 cases o with
 | chan cap buf cl st rc tm =>
   simp only[Obj.pm,qoa,Perm.comp,Obj.chan.injEq,true_and,and_true];cases cl <;> cases σ.b <;> cases π.b <;> rfl
 |_=>simp[Obj.pm,qw,Function.comp_def,qkz,pm_comp] <;> rfl
theorem qeg(π:Perm)(h:π.Idle)(o:Obj):o.pm π=o:=by
 cases o with
 |cells c e fz=>simp[Obj.pm,qkg π h]
 |pending c e=>simp[Obj.pm,qkg π h,h.h]
 |view a t=>simp[Obj.pm,Addr.pm,h.f,h.h]
 |number a l=>simp[Obj.pm,Addr.pm,h.f]
 | map es c =>
   have:es.map (MapEntry.pm π)=es:=by
    apply yap;intro i;rw[yw];cases es[i]? <;> simp[qob π h]
   simp[Obj.pm,this]
 |mapIter m s seen st=>cases m <;> simp[Obj.pm,h.f]
 |chan cap buf cl st rc tm=>simp[Obj.pm,qkg π h,h.b]
 |loop l=>cases l;simp[Obj.pm,qkg π h,h.f]
 |_=>rfl
@[simp] theorem obj_inv (π : Perm) (o : Obj) : (o.pm π.inv).pm π = o := by
  rw[obj_comp];exact qeg _ π.idle_inv o
@[simp] theorem qkh (π : Perm) (o : Obj) : (o.pm π).pm π.inv = o := by
  rw[obj_comp];exact qeg _ π.idle_inv' o
def _root_.Go.Sem.act{α β:Type}(π:Perm)(h:α->β):Sem α->Sem β
 |.pure a=>.pure (h a)
 |.load m a k=>.load m (a.pm π) fun v=>(k (v.pm π.inv)).act π h
 |.store m a v k=>.store m (a.pm π) (v.pm π) (k.act π h)
 |.new o k=>.new (o.pm π) fun r=>(k (π.i r)).act π h
 |.shape r k=>.shape (π.f r) fun s=>(k s).act π h
 |.freeze a n k=>.freeze (a.pm π) n (k.act π h)
 |.frozen a k=>.frozen (a.pm π) fun b=>(k b).act π h
 |.getObj r k=>.getObj (π.f r) fun o=>(k (o.pm π.inv)).act π h
 |.setObj r o k=>.setObj (π.f r) (o.pm π) (k.act π h)
 |.choose q k=>.choose q fun n=>(k n).act π h
 |.sys _ _ => .halt (.stuck "sys")
 |.program k=>.program fun p=>(k p).act π h
 |.mark m k=>.mark (m.pm π) (k.act π h)
 |.halt x=>.halt (x.pm π)
def _root_.Go.Halt.er:Halt->Halt
 |.panic _=>.panic .nilIface
 |h=>h
def _root_.Go.Sem.over{α:Type}(P:Program):Sem α->Sem α
 |.pure a=>.pure a
 |.load m a k=>.load m a fun v=>(k v).over P
 |.store m a v k=>.store m a v (k.over P)
 |.new o k=>.new o fun r=>(k r).over P
 |.shape r k=>.shape r fun s=>(k s).over P
 |.freeze a n k=>.freeze a n (k.over P)
 |.frozen a k=>.frozen a fun b=>(k b).over P
 |.getObj r k=>.getObj r fun o=>(k o).over P
 |.setObj r o k=>.setObj r o (k.over P)
 |.choose q k=>.choose q fun n=>(k n).over P
 |.sys c k=>.sys c fun r=>(k r).over P
 |.program k=>(k P).over P
 |.mark m k=>.mark m (k.over P)
 |.halt x=>.halt x.er
theorem qhw{α β:Type}(P:Program)(s:Sem α)(f:α->Sem β):(s.bind f).over P=(s.over P).bind fun a=>(f a).over P:=by
 induction s with
 |pure a=>rfl
 |halt h=>rfl
 |store m a v k ih=>simp only[Sem.bind,Sem.over,ih]
 |freeze a n k ih=>simp only[Sem.bind,Sem.over,ih]
 |setObj r o k ih=>simp only[Sem.bind,Sem.over,ih]
 |mark m k ih=>simp only[Sem.bind,Sem.over,ih]
 |program k ih=>simp only[Sem.bind,Sem.over,ih]
 |_=>simp only[Sem.bind,Sem.over];congr 1;funext x;rename_i ih;exact ih x
theorem qhx{α β γ δ:Type}{π:Perm}{hα:α->β}{h:γ->δ}{f:α->Sem γ}{f':β->Sem δ}(hf:∀a,f' (hα a)=(f a).act π h)(s:Sem α) :
 (s.act π hα).bind f'=(s.bind f).act π h:=by
 induction s with
 |pure a=>exact hf a
 |halt h=>rfl
 |store m a v k ih=>simp only[Sem.bind,Sem.act,ih]
 |freeze a n k ih=>simp only[Sem.bind,Sem.act,ih]
 |setObj r o k ih=>simp only[Sem.bind,Sem.act,ih]
 |mark m k ih=>simp only[Sem.bind,Sem.act,ih]
 |sys c k ih=>rfl
 |_=>simp only[Sem.bind,Sem.act];congr 1;funext x;rename_i ih;exact ih _
def Eqv{α β:Type}(P:Program)(π:Perm)(h:α->β)(s':Sem β)(s:Sem α):Prop:=s'.over P=(s.over P).act π h
section
variable {P:Program}{π:Perm}{α β γ δ:Type}
theorem Eqv.b{hα:α->β}{h:γ->δ}{s:Sem α}{s':Sem β}{f:α->Sem γ}{f':β->Sem δ}
 (hs:Eqv P π hα s' s) (hf:∀a,Eqv P π h (f' (hα a)) (f a)):Eqv P π h (s' >>= f') (s >>= f):=by
 show (s'.bind f').over P=((s.bind f).over P).act π h;rw[qhw,qhw,hs];exact qhx (f:=fun a=>(f a).over P) (f':=fun a=>(f' a).over P) hf _
theorem Eqv.prog{h:γ->δ}{f:Program->Sem γ}{f':Program->Sem δ}(hf:Eqv P π h (f' P) (f P)):Eqv P π h (program >>= f') (program >>= f):=hf
theorem Eqv.p{h:α->β}{a:α}{b:β}(e:b=h a):Eqv P π h (Pure.pure b:Sem β) (Pure.pure a:Sem α):=by subst e;rfl
theorem Eqv.s{h:α->β}(s:String):Eqv P π h (Go.stuck s:Sem β) (Go.stuck s:Sem α):=rfl
theorem Eqv.u{h:α->β}(s:Unsupported)(hs:∀g,s≠.initOrder g:=by intro _ h;cases h):Eqv P π h (Go.unsupported s:Sem β) (Go.unsupported s:Sem α):=by
 unfold Eqv Go.unsupported;simp only[Sem.over,Halt.er,Sem.act,qfu π hs]
theorem Eqv.goPanic{h:α->β}(v v':Value):Eqv P π h (Go.goPanic v':Sem β) (Go.goPanic v:Sem α):=by simp[Eqv,Go.goPanic,Sem.over,Halt.er,Sem.act,Halt.pm]
theorem Eqv.load{a:Addr}{m:Mode}:Eqv P π (Value.pm π) (Go.load (a.pm π) m) (Go.load a m):=by simp[Eqv,Go.load,Sem.act,Sem.over]
theorem Eqv.store{a:Addr}{v:Value}{m:Mode}:Eqv P π (fun x=>x) (Go.store (a.pm π) (v.pm π) m) (Go.store a v m):=rfl
theorem Eqv.newObj{o:Obj}:Eqv P π π.f (Go.newObj (o.pm π)) (Go.newObj o):=by simp[Eqv,Go.newObj,Sem.act,Sem.over,π.fi]
theorem Eqv.shape{r:Nat}:Eqv P π (fun x=>x) (Go.shape (π.f r)) (Go.shape r):=rfl
theorem Eqv.freeze{a:Addr}{n:Nat}:Eqv P π (fun x=>x) (Go.freeze (a.pm π) n) (Go.freeze a n):=rfl
theorem Eqv.frozen{a:Addr}:Eqv P π (fun x=>x) (Go.frozen (a.pm π)) (Go.frozen a):=rfl
theorem Eqv.getObj{r:Nat}:Eqv P π (Obj.pm π) (Go.getObj (π.f r)) (Go.getObj r):=by simp[Eqv,Go.getObj,Sem.act,Sem.over]
theorem Eqv.setObj{r:Nat}{o:Obj}:Eqv P π (fun x=>x) (Go.setObj (π.f r) (o.pm π)) (Go.setObj r o):=rfl
theorem Eqv.choose{q:Question}:Eqv P π (fun x=>x) (Go.choose q) (Go.choose q):=rfl
theorem Eqv.mark{m m':Mark}(e:m'=m.pm π):Eqv P π (fun x=>x) (Go.mark m') (Go.mark m):=by subst e;rfl
theorem qeh:Mark.noRoom=Mark.noRoom.pm π:=by unfold Mark.pm;cases π.b <;> rfl
theorem Eqv.typeInfo{t:TypeId}:Eqv P π (fun x=>x) (Go.typeInfo t) (Go.typeInfo t):=Eqv.prog (by split <;> rfl)
theorem Eqv.n{t:TypeId}:Eqv P π (fun x=>x) (Go.underlying t) (Go.underlying t):=Eqv.prog (by split <;> rfl)
theorem Eqv.sizeOf{t:TypeId}:Eqv P π (fun x=>x) (Go.sizeOf t) (Go.sizeOf t):=Eqv.b Eqv.typeInfo fun _=>rfl
theorem Eqv.isAgg{t:TypeId}:Eqv P π (fun x=>x) (Go.isAgg t) (Go.isAgg t):=Eqv.b Eqv.n fun d=>by cases d <;> rfl
theorem Eqv.askRoom{n:Nat}:Eqv P π (fun x=>x) (Go.askRoom n) (Go.askRoom n):=by
 unfold Go.askRoom;split
 ·exact Eqv.mark qeh
 ·rfl
theorem Eqv.i{h:α->β}{c c':Prop}[Decidable c][Decidable c']{s t:Sem α}{s' t':Sem β}(e:c'↔c)(h1:Eqv P π h s' s)(h2:Eqv P π h t' t) :
 Eqv P π h (if c' then s' else t') (if c then s else t):=by
 by_cases hc:c
 ·rw[if_pos hc,if_pos (e.2 hc)];exact h1
 ·rw[if_neg hc,if_neg (fun x=>hc (e.1 x))];exact h2
end
structure Still (p:Program) (π:Perm):Prop where
 below:∀r,π.f r<p.globals.size↔r<p.globals.size
 zero:∀t i v,p.info? t=some i->i.zero=some v->v.pm π=v
section
variable {P:Program}{π:Perm}(S:Still P π){α β:Type}
include S
theorem Eqv.zeroValue{t:TypeId}:Eqv P π (Value.pm π) (Go.zeroValue t) (Go.zeroValue t):=by
 cases h:P.info? t with
 |none=>simp[Eqv,Go.zeroValue,Go.typeInfo,program,Bind.bind,Sem.bind,Sem.over,h,Go.stuck,Sem.act,Halt.pm,Halt.er]
 | some i =>
   cases hz:i.zero with
   |none=>simp[Eqv,Go.zeroValue,Go.typeInfo,program,Bind.bind,Sem.bind,Sem.over,h,hz,Go.unsupported,Sem.act,Halt.pm,Halt.er,Pure.pure]
   |some v=>simp[Eqv,Go.zeroValue,Go.typeInfo,program,Bind.bind,Sem.bind,Sem.over,h,hz,Sem.act,Pure.pure,S.zero t i v h hz]
end
@[simp] theorem qa2 (π : Perm) (v : Value) : (v.pm π).cells = v.cells.map (Value.pm π) := by
  cases v <;> simp[Value.cells]
section
variable {P:Program}{π:Perm}{α β γ δ:Type}
theorem Eqv.guard{h:α->β}{c c':Prop}[Decidable c][Decidable c']{s s':Sem Unit}{r:Sem α}{r':Sem β}(e:c'↔c)(hs:Eqv P π (fun x=>x) s' s)(hr:Eqv P π h r' r) :
 Eqv P π h (if c' then (s' >>= fun _=>r') else r') (if c then (s >>= fun _=>r) else r):=Eqv.i e (Eqv.b hs fun _=>hr) hr
theorem Eqv.loadCellsFrom{a:Addr}:∀(n i:Nat) (acc:Array Value),Eqv P π (Array.map (Value.pm π)) (Go.loadCellsFrom (a.pm π) i n (acc.map (Value.pm π))) (Go.loadCellsFrom a i n acc)
 |0,_,_=>Eqv.p rfl
 | n + 1, i, acc => by
   unfold Go.loadCellsFrom;refine Eqv.b (hα:=Value.pm π) (by rw[<-qa4];exact Eqv.load) fun v=>?_;have:=Eqv.loadCellsFrom (a:=a) n (i+1) (acc.push v);simpa using this
theorem Eqv.loadCells{a:Addr}{n:Nat}:Eqv P π (Array.map (Value.pm π)) (Go.loadCells (a.pm π) n) (Go.loadCells a n):=by
 have:=Eqv.loadCellsFrom (P:=P) (π:=π) (a:=a) n 0 #[];simpa[Go.loadCells] using this
theorem Eqv.storeCells{a:Addr}:∀(vs:List Value) (i:Nat),Eqv P π (fun x=>x) (Go.storeCells (a.pm π) (vs.map (Value.pm π)) i) (Go.storeCells a vs i)
 |[],i=>by unfold Go.storeCells;exact Eqv.p rfl
 | v :: vs, i => by
   unfold Go.storeCells;simp only[yN];exact Eqv.b (hα:=fun x=>x) (by rw[<-qa4];exact Eqv.store) fun _=>Eqv.storeCells vs (i+1)
theorem Eqv.loadVar{t:TypeId}{a:Addr}:Eqv P π (Value.pm π) (Go.loadVar t (a.pm π)) (Go.loadVar t a):=by
 unfold Go.loadVar;refine Eqv.b Eqv.isAgg fun b=>?_;refine Eqv.i yK ?_ Eqv.load;exact Eqv.b Eqv.sizeOf fun n=>Eqv.b Eqv.loadCells fun cs=>Eqv.p (by simp)
theorem Eqv.storeVar{t:TypeId}{a:Addr}{v:Value}:Eqv P π (fun x=>x) (Go.storeVar t (a.pm π) (v.pm π)) (Go.storeVar t a v):=by
 unfold Go.storeVar;refine Eqv.b Eqv.sizeOf fun n=>?_;have h:=Eqv.storeCells (P:=P) (π:=π) (a:=a) v.cells.toList 0;simp only[qa2,yaI,yV];exact Eqv.guard yK (Eqv.s _) h
theorem Eqv.newRow{t:TypeId}{cs:Array Value}:Eqv P π (Addr.pm π) (Go.newRow t (cs.map (Value.pm π))) (Go.newRow t cs):=by
 unfold Go.newRow;exact Eqv.b (Eqv.newObj (o:=.cells cs t)) fun r=>Eqv.p rfl
theorem Eqv.newVar{t:TypeId}{v:Value}:Eqv P π (Addr.pm π) (Go.newVar t (v.pm π)) (Go.newVar t v):=by
 unfold Go.newVar;rw[qa2];exact Eqv.newRow
theorem Eqv.elemOf{t:TypeId}:Eqv P π (fun x=>x) (Go.elemOf t) (Go.elemOf t):=
 Eqv.b Eqv.n fun d=>by cases d <;> rfl
theorem Eqv.part{t:TypeId}{cs:Array Value}{off:Nat}:Eqv P π (Value.pm π) (Go.part t (cs.map (Value.pm π)) off) (Go.part t cs off):=by
 unfold Go.part;refine Eqv.b Eqv.isAgg fun b=>Eqv.i yK (Eqv.b Eqv.sizeOf fun n=>Eqv.p (by simp)) ?_;rw[yw];cases cs[off]? with
 |none=>exact Eqv.s _
 |some v=>exact Eqv.p rfl
theorem Eqv.asIntOf{v:Value}:Eqv P π (fun x=>x) (Go.asIntOf (v.pm π)) (Go.asIntOf v):=by
 cases v <;> simp[Go.asIntOf] <;> first|rfl|skip
 rename_i a
 cases a <;> rfl
theorem Eqv.asInt{v:Value}:Eqv P π (fun x=>x) (Go.asInt (v.pm π)) (Go.asInt v):=Eqv.b Eqv.asIntOf fun _=>rfl
theorem Eqv.asBool{v:Value}:Eqv P π (fun x=>x) (Go.asBool (v.pm π)) (Go.asBool v):=by
 cases v <;> simp[Go.asBool] <;> rfl
theorem Eqv.asAgg{v:Value}:Eqv P π (Array.map (Value.pm π)) (Go.asAgg (v.pm π)) (Go.asAgg v):=by
 cases v <;> simp[Go.asAgg] <;> first|rfl|exact Eqv.p rfl
theorem Eqv.viewAt{r:Nat}:Eqv P π (Option.map fun x=>(x.1.pm π,π.h x.2)) (Go.viewAt (π.f r)) (Go.viewAt r):=by
 unfold Go.viewAt;refine Eqv.b Eqv.shape fun s=>Eqv.i yK (Eqv.p rfl) ?_;exact Eqv.b Eqv.getObj fun o=>by cases o <;> first|rfl|exact Eqv.p rfl
theorem Eqv.numberAt{r:Nat}:Eqv P π (Option.map fun x=>(x.1.pm π,x.2)) (Go.numberAt (π.f r)) (Go.numberAt r):=by
 unfold Go.numberAt;refine Eqv.b Eqv.shape fun s=>Eqv.i yK (Eqv.p rfl) ?_;exact Eqv.b Eqv.getObj fun o=>by cases o <;> first|rfl|exact Eqv.p rfl
theorem Eqv.h{a:Addr}:Eqv P π (fun x=>(x.1.pm π,x.2)) (Go.behindNumber (a.pm π)) (Go.behindNumber a):=by
 unfold Go.behindNumber;exact Eqv.b Eqv.numberAt fun o=>Eqv.p (by cases o <;> rfl)
theorem Eqv.asNumber{a:Addr}{l:Bool}:Eqv P π (Value.pm π) (Go.asNumber (a.pm π) l) (Go.asNumber a l):=by
 unfold Go.asNumber;exact Eqv.b (Eqv.newObj (o:=.number a l)) fun r=>Eqv.p (by simp)
theorem Eqv.noView{a:Addr}:Eqv P π (fun x=>x) (Go.noView (a.pm π)) (Go.noView a):=by
 unfold Go.noView;exact Eqv.b Eqv.viewAt fun o=>by cases o <;> rfl
theorem Eqv.markStringish{a:Addr}:Eqv P π (fun x=>x) (Go.markStringish (a.pm π)) (Go.markStringish a):=by
 unfold Go.markStringish;exact Eqv.b Eqv.shape fun s=>by cases s <;> rfl
theorem Eqv.stringish{a:Addr}:Eqv P π (fun x=>x) (Go.stringish (a.pm π)) (Go.stringish a):=by
 unfold Go.stringish;refine Eqv.b Eqv.frozen fun b=>Eqv.i yK (Eqv.p rfl) ?_;exact Eqv.b Eqv.shape fun s=>by cases s <;> rfl
theorem Eqv.mayBeOne{a b:Addr}:Eqv P π (fun x=>x) (Go.mayBeOne (a.pm π) (b.pm π)) (Go.mayBeOne a b):=by
 unfold Go.mayBeOne;refine Eqv.b Eqv.stringish fun x=>Eqv.b Eqv.stringish fun y=>?_;have hn:∀c:Addr,Eqv P π (fun x=>x) (do Pure.pure ((<-Go.shape (c.pm π).block) matches some (_,0)):Sem Bool) (do Pure.pure ((<-Go.shape c.block) matches some (_,0)):Sem Bool):=fun c=>Eqv.b Eqv.shape fun _=>Eqv.p rfl;exact Eqv.b (hn a) fun u=>Eqv.b (hn b) fun v=>Eqv.p rfl
theorem Eqv.sameAddr{a b:Addr}:Eqv P π (fun x=>x) (Go.sameAddr (a.pm π) (b.pm π)) (Go.sameAddr a b):=by
 unfold Go.sameAddr;refine Eqv.i (by simp) (Eqv.p (by simp)) ?_;refine Eqv.b Eqv.frozen fun x=>Eqv.b Eqv.frozen fun y=>Eqv.guard yK (Eqv.u _) ?_;refine Eqv.b Eqv.noView fun _=>Eqv.b Eqv.noView fun _=>Eqv.b Eqv.mayBeOne fun b=>Eqv.i yK ?_ (Eqv.p rfl);exact Eqv.b Eqv.choose fun _=>Eqv.p rfl
theorem Eqv.samePointer{a b:Option Addr}:Eqv P π (fun x=>x) (Go.samePointer (a.map (Addr.pm π)) (b.map (Addr.pm π))) (Go.samePointer a b):=by
 cases a <;> cases b <;> first|exact Eqv.sameAddr|exact Eqv.p rfl
theorem Eqv.byteOf{a:Addr}:Eqv P π (fun x=>x) (Go.byteOf (a.pm π)) (Go.byteOf a):=by
 unfold Go.byteOf;rw[qb5];cases a.spot with
 |some s=>exact Eqv.p rfl
 | none =>
   refine Eqv.prog (Eqv.b Eqv.noView fun _=>Eqv.b Eqv.shape fun o=>?_);cases o with
   |none=>exact Eqv.s _
   | some x =>
     refine Eqv.i yK (Eqv.p rfl) ?_;simp only[qa5];cases byteOfCell P P.depth x.1 (a.off % P.cellsOf x.1) with
     |none=>exact Eqv.s _
     |some b=>exact Eqv.p rfl
theorem Eqv.partAt{a:Addr}{c b:Nat}:Eqv P π (Addr.pm π) (Go.partAt (a.pm π) c b) (Go.partAt a c b):=by
 unfold Go.partAt;refine Eqv.b Eqv.byteOf fun n=>Eqv.b (Eqv.byteOf (a:={ block:=a.block,off:=a.off+c })) fun m=>Eqv.p ?_;split <;> rfl
theorem Eqv.fieldPlace{a:Addr}{f:Field}:Eqv P π (Addr.pm π) (Go.fieldPlace (a.pm π) f) (Go.fieldPlace a f):=by
 unfold Go.fieldPlace;exact Eqv.b Eqv.sizeOf fun n=>Eqv.i yK Eqv.partAt (Eqv.p (by simp))
theorem Eqv.variablesAt{a:Addr}{u:TypeId}{n:Nat}:Eqv P π (fun x=>x) (Go.variablesAt (a.pm π) u n) (Go.variablesAt a u n):=by
 unfold Go.variablesAt;exact Eqv.prog (Eqv.b Eqv.shape fun o=>by cases o <;> exact Eqv.p rfl)
end
section
variable {P:Program}{π:Perm}(S:Still P π){α β:Type}
include S
omit S in
theorem Eqv.runtimePanic'{h:α->β}(e:RuntimeError)(he:∀i c a m,e≠.typeAssertion i c a m):Eqv P π h (Go.runtimePanic e:Sem β) (Go.runtimePanic e:Sem α):=by
 unfold Go.runtimePanic;refine Eqv.prog ?_;cases e with
 |bounds x y s c=>exact Eqv.goPanic _ _
 |error m=>exact Eqv.goPanic _ _
 |plain m=>exact Eqv.goPanic _ _
 |nilDeref=>exact Eqv.goPanic _ _
 |typeAssertion i c a m=>exact absurd rfl (he i c a m)
 | panicNil =>
   refine Eqv.b Eqv.elemOf fun t=>?_;have:=Eqv.newVar (P:=P) (π:=π) (t:=t) (v:=.agg #[]);simp only[qds,yas,yaK] at this;exact Eqv.b this fun r=>Eqv.goPanic _ _
 |unhashable t=>exact Eqv.goPanic _ _
theorem Eqv.r{h:α->β}(e:RuntimeError)(he:∀i c a m,e≠.typeAssertion i c a m:=by intro _ _ _ _ h;cases h):Eqv P π h (Go.runtimePanic e:Sem β) (Go.runtimePanic e:Sem α):=by
 have _:=S;exact Eqv.runtimePanic' e he
theorem Eqv.boundsPanic{h:α->β}{k:IntKind}{x y:Int}{c:BoundsCode}:Eqv P π h (Go.boundsPanic k x y c:Sem β) (Go.boundsPanic k x y c:Sem α):=by
 unfold Go.boundsPanic;refine Eqv.i yK (Eqv.b (hα:=fun x=>x) ?_ fun _=>Eqv.r S _) (Eqv.b (hα:=fun x=>x) (Eqv.p rfl) fun _=>Eqv.r S _);exact Eqv.b (f:=fun x=>Pure.pure (x == 1)) (f':=fun x=>Pure.pure (x == 1)) Eqv.choose fun _=>Eqv.p rfl
theorem Eqv.asAddr{v:Value}:Eqv P π (Addr.pm π) (Go.asAddr (v.pm π)) (Go.asAddr v):=by
 cases v with
 | pointer a =>
   cases a with
   |none=>simp only[pm_pointer,Option.map_none,Go.asAddr];exact Eqv.r S _
   |some a=>simp only[pm_pointer,yp];exact Eqv.p rfl
 |_=>simp <;> rfl
end
section
variable {P:Program}{π:Perm}{α β γ δ:Type}
theorem qfv(s:Sem α)(f:α->Sem β)(g:β->Sem γ):(s.bind f).bind g=s.bind fun a=>(f a).bind g:=by
 induction s with
 |pure a=>rfl
 |halt h=>rfl
 |store m a v k ih=>simp only[Sem.bind,ih]
 |freeze a n k ih=>simp only[Sem.bind,ih]
 |setObj r o k ih=>simp only[Sem.bind,ih]
 |mark m k ih=>simp only[Sem.bind,ih]
 |_=>simp only[Sem.bind];congr 1;funext x;rename_i ih;exact ih x
theorem qgn(s:Sem α):s.bind Sem.pure=s:=by
 induction s with
 |pure a=>rfl
 |halt h=>rfl
 |store m a v k ih=>simp only[Sem.bind,ih]
 |freeze a n k ih=>simp only[Sem.bind,ih]
 |setObj r o k ih=>simp only[Sem.bind,ih]
 |mark m k ih=>simp only[Sem.bind,ih]
 |_=>simp only[Sem.bind];congr 1;funext x;rename_i ih;exact ih x
theorem lawful:LawfulMonad Sem:=LawfulMonad.mk' Sem (fun x=>qgn x) (fun _ _=>rfl) (fun x f g=>qfv x f g)
theorem Eqv.mapM{ι:Type}{h:α->β}{f:ι->Sem α}{f':ι->Sem β}(hf:∀i,Eqv P π h (f' i) (f i)):∀l:List ι,Eqv P π (List.map h) (l.mapM f') (l.mapM f)
 |[]=>by haveI:=lawful;rw[List.mapM_nil,List.mapM_nil];exact Eqv.p rfl
 | x :: l => by
   haveI:=lawful
   rw[List.mapM_cons,List.mapM_cons];exact Eqv.b (hf x) fun a=>Eqv.b (Eqv.mapM hf l) fun as=>Eqv.p rfl
theorem Eqv.forIn{ι σ σ':Type}{hσ:σ->σ'}{f:ι->σ->Sem (ForInStep σ)}{f':ι->σ'->Sem (ForInStep σ')}
 (hf:∀i s,Eqv P π (fun r=>match r with | .done a=>.done (hσ a) | .yield a=>.yield (hσ a)) (f' i (hσ s)) (f i s)):∀(l:List ι) (s:σ),Eqv P π hσ (ForIn.forIn l (hσ s) f') (ForIn.forIn l s f)
 |[],s=>by simp only[List.forIn_nil];exact Eqv.p rfl
 | x :: l, s => by
   simp only[List.forIn_cons];refine Eqv.b (hf x s) fun r=>?_;cases r with
   |done a=>exact Eqv.p rfl
   |yield a=>exact Eqv.forIn hf l a
theorem Eqv.sureAddr{v:Value}:Eqv P π (Addr.pm π) (Instr.sureAddr (v.pm π)) (Instr.sureAddr v):=by
 cases v with
 |pointer a=>cases a <;> first|exact Eqv.s _|exact Eqv.p rfl
 |_=>exact Eqv.s _
theorem Eqv.loadAt{t:TypeId}{v:Value}:Eqv P π (Value.pm π) (Instr.loadAt t (v.pm π)) (Instr.loadAt t v):=Eqv.b Eqv.sureAddr fun _=>Eqv.loadVar
theorem Eqv.storeAt{t:TypeId}{v x:Value}:Eqv P π (fun x=>x) (Instr.storeAt t (v.pm π) (x.pm π)) (Instr.storeAt t v x):=Eqv.b Eqv.sureAddr fun _=>Eqv.storeVar
theorem Eqv.fieldAt{s:TypeId}{v:Value}{f:Nat}:Eqv P π (Value.pm π) (Instr.fieldAt s (v.pm π) f) (Instr.fieldAt s v f):=by
 unfold Instr.fieldAt;refine Eqv.b Eqv.n fun d=>?_;cases d with
 | struct fields =>
   dsimp only;cases fields[f]? with
   |none=>exact Eqv.s _
   |some fl=>exact Eqv.b Eqv.sureAddr fun a=>Eqv.b Eqv.fieldPlace fun b=>Eqv.p (by simp)
 |_=>exact Eqv.s _
theorem Eqv.box{t:TypeId}{v:Value}:Eqv P π (Value.pm π) (Instr.box t (v.pm π)) (Instr.box t v):=Eqv.b Eqv.newVar fun a=>Eqv.p (by simp)
theorem qgo(place:Nat->Option (Nat × Nat)):∀(l:List (Nat × Value)) (cells:Array Value),
 Instr.fill place (cells.map (Value.pm π)) (l.map fun x=>(x.1,x.2.pm π))=(Instr.fill place cells l).map (Array.map (Value.pm π))
 |[],cells=>by simp[Instr.fill]
 | (i, v) :: l, cells => by
   simp only[yN,Instr.fill];cases place i with
   |none=>rfl
   | some x =>
     obtain⟨off,size⟩:=x;simp only[qa2,yaI];split
     ·rfl
     ·rw[<-qgo place l];congr 1;rw[<-Array.foldl_toList,<-Array.foldl_toList,Array.toList_zipIdx,Array.toList_zipIdx,yV,List.zipIdx_map,List.foldl_map];have key:∀(xs:List (Value × Nat)) (cs:Array Value),xs.foldl (fun cs x=>cs.setIfInBounds (off+x.2) (x.1.pm π)) (cs.map (Value.pm π))=(xs.foldl (fun cs x=>cs.setIfInBounds (off+x.2) x.1) cs).map (Value.pm π):=by
       intro xs;induction xs with
       |nil=>intro cs;rfl
       | cons x xs ih =>
         intro cs;simp only[List.foldl_cons];rw[<-ih];congr 1;apply yap;intro j;simp only[yw,yac,yaI];split <;> simp
      exact key _ _
theorem Eqv.mapMA{ι:Type}{h:α->β}{f:ι->Sem α}{f':ι->Sem β}(hf:∀i,Eqv P π h (f' i) (f i))(a:Array ι):Eqv P π (Array.map h) (a.mapM f') (a.mapM f):=by
 haveI:=lawful
 rw[Array.mapM_eq_mapM_toList,Array.mapM_eq_mapM_toList];exact Eqv.b (h:=Array.map h) (f:=fun l=>Pure.pure l.toArray) (f':=fun l=>Pure.pure l.toArray) (Eqv.mapM hf a.toList) fun l=>Eqv.p (yas ..).symm
theorem qpv(a:Array Value)(i:Nat):(a.map (Value.pm π))[i]! = (a[i]!).pm π:=by
 rw[getElem!_def,getElem!_def,yw];cases a[i]? <;> simp[default,instInhabitedValue.default]
theorem ql7(zero:Array Value)(n:Nat):(Array.range n).map ((zero.map (Value.pm π))[· % (zero.map (Value.pm π)).size]!)=((Array.range n).map (zero[· % zero.size]!)).map (Value.pm π):=by
 rw[Array.map_map];congr 1;funext x;simp only[qpv,yaI,Function.comp_def]
theorem Eqv.sliceBound(S:Still P π){x:Value}{y:Nat}{c:BoundsCode}:Eqv P π (fun x=>x) (Instr.sliceBound (x.pm π) y c) (Instr.sliceBound x y c):=by
 unfold Instr.sliceBound;exact Eqv.b Eqv.asIntOf fun k=>Eqv.i yK (Eqv.p rfl) (Eqv.boundsPanic S)
theorem Eqv.sliceBounds(S:Still P π){b:Bool}{len cap:Nat}{lo hi mx:Option Value} :
 Eqv P π (fun x=>x) (Instr.sliceBounds b len cap (lo.map (Value.pm π)) (hi.map (Value.pm π)) (mx.map (Value.pm π))) (Instr.sliceBounds b len cap lo hi mx):=by
 unfold Instr.sliceBounds;cases mx <;> cases hi <;> cases lo <;> dsimp only[Option.map] <;>
 first
 |exact Eqv.b (hα:=fun x=>x) (Eqv.p rfl) fun m=>Eqv.b (hα:=fun x=>x) (Eqv.p rfl) fun h=>Eqv.b (hα:=fun x=>x) (Eqv.p rfl) fun l=>Eqv.p rfl
 |exact Eqv.b (hα:=fun x=>x) (Eqv.p rfl) fun m=>Eqv.b (hα:=fun x=>x) (Eqv.p rfl) fun h=>Eqv.b (Eqv.sliceBound S) fun l=>Eqv.p rfl
 |exact Eqv.b (hα:=fun x=>x) (Eqv.p rfl) fun m=>Eqv.b (Eqv.sliceBound S) fun h=>Eqv.b (hα:=fun x=>x) (Eqv.p rfl) fun l=>Eqv.p rfl
 |exact Eqv.b (hα:=fun x=>x) (Eqv.p rfl) fun m=>Eqv.b (Eqv.sliceBound S) fun h=>Eqv.b (Eqv.sliceBound S) fun l=>Eqv.p rfl
 |exact Eqv.b (Eqv.sliceBound S) fun m=>Eqv.b (hα:=fun x=>x) (Eqv.s _) fun h=>Eqv.b (hα:=fun x=>x) (Eqv.p rfl) fun l=>Eqv.p rfl
 |exact Eqv.b (Eqv.sliceBound S) fun m=>Eqv.b (hα:=fun x=>x) (Eqv.s _) fun h=>Eqv.b (Eqv.sliceBound S) fun l=>Eqv.p rfl
 |exact Eqv.b (Eqv.sliceBound S) fun m=>Eqv.b (Eqv.sliceBound S) fun h=>Eqv.b (hα:=fun x=>x) (Eqv.p rfl) fun l=>Eqv.p rfl
 |exact Eqv.b (Eqv.sliceBound S) fun m=>Eqv.b (Eqv.sliceBound S) fun h=>Eqv.b (Eqv.sliceBound S) fun l=>Eqv.p rfl
end
section
variable {P:Program}{π:Perm}(S:Still P π){α β:Type}
include S
theorem Eqv.alloc{t:TypeId}{b:Bool}{old:Value}:Eqv P π (Value.pm π) (Instr.alloc t b (old.pm π)) (Instr.alloc t b old):=by
 unfold Instr.alloc;refine Eqv.b (Eqv.zeroValue S) fun z=>?_;have hn:Eqv P π (Value.pm π) (do Pure.pure (.pointer (some (<-Go.newVar t (z.pm π)))):Sem Value) (do Pure.pure (.pointer (some (<-Go.newVar t z))):Sem Value):=Eqv.b Eqv.newVar fun a=>Eqv.p (by simp);cases b with
 |true=>exact hn
 | false =>
   cases old with
   | pointer a =>
     cases a with
     |none=>exact hn
     |some a=>exact Eqv.b Eqv.storeVar fun _=>Eqv.p rfl
   |_=>simp <;> exact hn
theorem Eqv.build{t:TypeId}{parts:Array (Nat × Value)}:Eqv P π (Value.pm π) (Instr.build t (parts.map fun x=>(x.1,x.2.pm π))) (Instr.build t parts):=by
 unfold Instr.build;refine Eqv.b (Eqv.zeroValue S) fun z=>Eqv.b Eqv.n fun d=>?_;simp only[qa2,yV];cases d with
 | struct fields =>
   refine Eqv.b (hα:=fun x=>x) ?_ fun places=>?_
   ·have:=Eqv.mapMA (P:=P) (π:=π) (h:=fun x=>x) (f:=fun f:Field=>do Pure.pure (f.offset,<-Go.sizeOf f.type)) (f':=fun f:Field=>do Pure.pure (f.offset,<-Go.sizeOf f.type)) (fun f=>Eqv.b Eqv.sizeOf fun n=>Eqv.p rfl) fields;have e:(Array.map fun x:Nat × Nat=>x)=fun x=>x:=by funext a;simp
    rw[e] at this;exact this
   ·rw[qgo];cases Instr.fill (fun x=>places[x]?) z.cells parts.toList with
    |none=>exact Eqv.s _
    |some cs=>exact Eqv.p (by simp)
 | array n e =>
   refine Eqv.b Eqv.sizeOf fun size=>?_;rw[qgo];cases Instr.fill (fun i=>some (i * size,size)) z.cells parts.toList with
   |none=>exact Eqv.s _
   |some cs=>exact Eqv.p (by simp)
 |_=>exact Eqv.s _
theorem Eqv.buildSlice{t:TypeId}{len:Nat}{parts:Array (Nat × Value)}:Eqv P π (Value.pm π) (Instr.buildSlice t len (parts.map fun x=>(x.1,x.2.pm π))) (Instr.buildSlice t len parts):=by
 unfold Instr.buildSlice;refine Eqv.b Eqv.n fun d=>?_;cases d with
 | slice elem =>
   refine Eqv.b Eqv.sizeOf fun size=>Eqv.guard yK (Eqv.u _) ?_;have hr:∀zero:Array Value,Eqv P π (Value.pm π)
    (match Instr.fill (fun i=>some (i * size,size)) ((Array.range (len * size)).map ((zero.map (Value.pm π))[· % (zero.map (Value.pm π)).size]!)) (parts.map fun x=>(x.1,x.2.pm π)).toList with
     |some cells=>(do Pure.pure (.slice (some (<-Go.newRow elem cells)) len len):Sem Value)
     |_ => Go.stuck "buildSlice: a part of the wrong size")
    (match Instr.fill (fun i=>some (i * size,size)) ((Array.range (len * size)).map (zero[· % zero.size]!)) parts.toList with
     |some cells=>(do Pure.pure (.slice (some (<-Go.newRow elem cells)) len len):Sem Value)
     |_ => Go.stuck "buildSlice: a part of the wrong size") := by
    intro zero;rw[ql7,yV,qgo];cases Instr.fill (fun i=>some (i * size,size)) ((Array.range (len * size)).map (zero[· % zero.size]!)) parts.toList with
    |none=>exact Eqv.s _
    |some cs=>exact Eqv.b Eqv.newRow fun a=>Eqv.p (by simp)
   refine Eqv.i yK (Eqv.b (hα:=Array.map (Value.pm π)) (Eqv.p (by simp)) fun z=>hr z) ?_;exact Eqv.b (Eqv.zeroValue S) fun z=>Eqv.b (hα:=Array.map (Value.pm π)) (Eqv.p (by simp)) fun z=>hr z
 |_=>exact Eqv.s _
theorem Eqv.makeSlice{t:TypeId}{l c:Value}:Eqv P π (Value.pm π) (Instr.makeSlice t (l.pm π) (c.pm π)) (Instr.makeSlice t l c):=by
 unfold Instr.makeSlice;refine Eqv.b Eqv.n fun d=>?_;cases d with
 | slice elem =>
   refine Eqv.b Eqv.asInt fun len=>Eqv.b Eqv.asInt fun cap=>Eqv.b Eqv.typeInfo fun info=>?_;have hr:∀zero:Array Value,∀n lc cc:Nat,Eqv P π (Value.pm π)
    (do let a <-Go.newRow elem ((Array.range n).map ((zero.map (Value.pm π))[· % (zero.map (Value.pm π)).size]!));Pure.pure (.slice (some a) lc cc):Sem Value)
    (do let a <-Go.newRow elem ((Array.range n).map (zero[· % zero.size]!));Pure.pure (.slice (some a) lc cc):Sem Value):=by
    intro zero n lc cc;rw[ql7];exact Eqv.b Eqv.newRow fun a=>Eqv.p (by simp)
   have hj:∀lc cc b:Nat,Eqv P π (Value.pm π)
    (do Go.askRoom b;let size <-Go.sizeOf elem;if cc * size=0 then (do let zero <-Pure.pure #[];let a <-Go.newRow elem ((Array.range (cc * size)).map (zero[· % zero.size]!));Pure.pure (.slice (some a) lc cc)) else (do let z <-Go.zeroValue elem;let zero <-Pure.pure z.cells;let a <-Go.newRow elem ((Array.range (cc * size)).map (zero[· % zero.size]!));Pure.pure (.slice (some a) lc cc)):Sem Value)
    (do Go.askRoom b;let size <-Go.sizeOf elem;if cc * size=0 then (do let zero <-Pure.pure #[];let a <-Go.newRow elem ((Array.range (cc * size)).map (zero[· % zero.size]!));Pure.pure (.slice (some a) lc cc)) else (do let z <-Go.zeroValue elem;let zero <-Pure.pure z.cells;let a <-Go.newRow elem ((Array.range (cc * size)).map (zero[· % zero.size]!));Pure.pure (.slice (some a) lc cc)):Sem Value):=by
    intro lc cc b;refine Eqv.b Eqv.askRoom fun _=>Eqv.b Eqv.sizeOf fun size=>?_;refine Eqv.i yK (Eqv.b (hα:=Array.map (Value.pm π)) (Eqv.p (by simp)) fun z=>hr z _ _ _) ?_;exact Eqv.b (Eqv.zeroValue S) fun z=>Eqv.b (hα:=Array.map (Value.pm π)) (Eqv.p (by simp)) fun z=>hr z _ _ _
   refine Eqv.i yK (Eqv.i yK ?_ (Eqv.i yK ?_ ?_)) (hj _ _ _)
   ·exact Eqv.b (hα:=fun x=>x) (Eqv.r S _) fun _=>hj _ _ _
   ·exact Eqv.b (hα:=fun x=>x) (Eqv.r S _) fun _=>hj _ _ _
   ·exact Eqv.b Eqv.choose fun _=>Eqv.b (hα:=fun x=>x) (Eqv.r S _) fun _=>hj _ _ _
 |_=>exact Eqv.s _
theorem Eqv.indexAt{t:TypeId}{x ix:Value}:Eqv P π (Value.pm π) (Instr.indexAt t (x.pm π) (ix.pm π)) (Instr.indexAt t x ix):=by
 unfold Instr.indexAt;refine Eqv.b Eqv.asIntOf fun ki=>?_;obtain⟨k,i⟩:=ki;refine Eqv.b Eqv.n fun d=>?_;have hj:∀(base:Option Addr) (len:Nat) (elem:TypeId),Eqv P π (Value.pm π)
  (do let d ← Go.underlying t; let tiny : Bool := decide (len ≤ 1) && (match d with | .array .. => true | _ => false); (match base.map (Addr.pm π) with | some a => if 0 ≤ i ∧ i < len then (do Pure.pure (.pointer (some (a.add (i.toNat * (← Go.sizeOf elem)))))) else if tiny = true then Go.unsupported (.noEntry "op/indexAddr.an index out of range at an array of length 0 or 1 (ledger 616)") else Go.boundsPanic k i len .index | none => Go.boundsPanic k i 0 .index) : Sem Value)
  (do let d ← Go.underlying t; let tiny : Bool := decide (len ≤ 1) && (match d with | .array .. => true | _ => false); (match base with | some a => if 0 ≤ i ∧ i < len then (do Pure.pure (.pointer (some (a.add (i.toNat * (← Go.sizeOf elem)))))) else if tiny = true then Go.unsupported (.noEntry "op/indexAddr.an index out of range at an array of length 0 or 1 (ledger 616)") else Go.boundsPanic k i len .index | none => Go.boundsPanic k i 0 .index) : Sem Value) := by
  intro base len elem;refine Eqv.b Eqv.n fun d=>?_;cases base with
  |none=>exact Eqv.boundsPanic S
  |some a=>exact Eqv.i yK (Eqv.b Eqv.sizeOf fun n=>Eqv.p (by simp)) (Eqv.i yK (Eqv.u _) (Eqv.boundsPanic S))
 have hs : Eqv P π (Value.pm π) (do let __x ← (Go.stuck "indexAddr: an array's address or a slice expected" : Sem (Option Addr × Nat × TypeId)); Go.stuck "" : Sem Value) (do let __x ← (Go.stuck "indexAddr: an array's address or a slice expected" : Sem (Option Addr × Nat × TypeId)); Go.stuck "" : Sem Value) := rfl;cases d with
 |array len elem=>exact Eqv.b Eqv.sureAddr fun a=>Eqv.b (hα:=fun x=>(x.1.map (Addr.pm π),x.2)) (Eqv.p rfl) fun y=>hj y.1 y.2.1 y.2.2
 | slice elem =>
   cases x with
   | slice base len cap =>
     simp only[pm_slice];exact Eqv.b (hα:=fun x=>(x.1.map (Addr.pm π),x.2)) (Eqv.p rfl) fun y=>hj y.1 y.2.1 y.2.2
   |_=>simp <;> exact hs
 |_=>cases x <;> exact hs
end
section
variable {P:Program}{π:Perm}(S:Still P π){α β:Type}
theorem qoc{c:Prop}[Decidable c]{a b:Option Addr}:(if c then a else b).map (Addr.pm π)=if c then a.map (Addr.pm π) else b.map (Addr.pm π):=by split <;> rfl
include S
theorem Eqv.slice{t:TypeId}{x:Value}{lo hi mx:Option Value}:Eqv P π (Value.pm π) (Instr.slice t (x.pm π) (lo.map (Value.pm π)) (hi.map (Value.pm π)) (mx.map (Value.pm π))) (Instr.slice t x lo hi mx):=by
 unfold Instr.slice;refine Eqv.b Eqv.n fun d=>?_;cases d with
 | string =>
   cases x with
   | string s =>
     simp only[qef];refine Eqv.guard (by simp) (Eqv.s _) ?_;exact Eqv.b (Eqv.sliceBounds S (mx:=none)) fun y=>Eqv.p (by simp)
   |_=>exact Eqv.s _
 | slice elem =>
   cases x with
   | slice a len cap =>
     simp only[pm_slice];refine Eqv.b (Eqv.sliceBounds S) fun y=>?_;obtain⟨l,h,m⟩:=y;refine Eqv.b Eqv.sizeOf fun n=>Eqv.p ?_;simp only[pm_slice,qoc];cases a <;> simp
   |_=>exact Eqv.s _
 | pointer arr =>
   refine Eqv.b (Eqv.asAddr S) fun a=>Eqv.b Eqv.n fun d=>?_;cases d with
   | array n elem =>
     refine Eqv.b (Eqv.sliceBounds S) fun y=>?_;obtain⟨l,h,m⟩:=y;refine Eqv.b Eqv.sizeOf fun k=>Eqv.p ?_;simp only[pm_slice,yp];split <;> simp
   |_=>exact Eqv.s _
 |_=>cases x <;> exact Eqv.s _
theorem Eqv.sliceAt{t:TypeId}{x:Value}{lo hi mx:Option Value}:Eqv P π (Value.pm π) (Instr.sliceAt t (x.pm π) (lo.map (Value.pm π)) (hi.map (Value.pm π)) (mx.map (Value.pm π))) (Instr.sliceAt t x lo hi mx):=by
 unfold Instr.sliceAt;refine Eqv.b Eqv.n fun d=>?_;cases d with
 | array n elem =>
   refine Eqv.b Eqv.sureAddr fun a=>Eqv.b (Eqv.sliceBounds S) fun y=>?_;obtain⟨l,h,m⟩:=y;refine Eqv.b Eqv.sizeOf fun k=>Eqv.p ?_;simp only[pm_slice,yp];split <;> simp
 |_=>exact Eqv.slice S
theorem Eqv.index{t:TypeId}{x ix:Value}:Eqv P π (Value.pm π) (Instr.index t (x.pm π) (ix.pm π)) (Instr.index t x ix):=by
 unfold Instr.index;refine Eqv.b Eqv.asIntOf fun ki=>?_;obtain⟨k,i⟩:=ki;refine Eqv.b Eqv.n fun d=>?_;cases d with
 | array len elem =>
   cases x with
   | agg cs =>
     simp only[qds];exact Eqv.i yK (Eqv.b Eqv.sizeOf fun n=>Eqv.part) (Eqv.boundsPanic S)
   |_=>exact Eqv.s _
 | string =>
   cases x with
   | string s =>
     simp only[qef];cases (if 0<=i then s[i.toNat]? else none) with
     |none=>exact Eqv.boundsPanic S
     |some b=>exact Eqv.p (by simp)
   |_=>exact Eqv.s _
 |_=>cases x <;> exact Eqv.s _
omit S in
theorem Eqv.makeMap{t:TypeId}{r:Option Value}:Eqv P π (Value.pm π) (Instr.makeMap t (r.map (Value.pm π))) (Instr.makeMap t r):=by
 unfold Instr.makeMap;have hm:Eqv P π (Value.pm π) (do Pure.pure (.map (some (<-Go.newObj (.map #[] 0)))):Sem Value) (do Pure.pure (.map (some (<-Go.newObj (.map #[] 0)))):Sem Value):=
  Eqv.b (hα:=π.f) (by have:=Eqv.newObj (P:=P) (π:=π) (o:=.map #[] 0);simpa[Obj.pm] using this) fun r=>Eqv.p (by simp)
 cases r with
 |none=>exact hm
 | some v =>
   refine Eqv.b Eqv.n fun d=>?_;cases d with
   |map k e=>exact Eqv.b Eqv.asInt fun _=>hm
   |_=>exact Eqv.s _
omit S in
theorem Eqv.extract{v:Value}{i:Nat}:Eqv P π (Value.pm π) (Instr.extract (v.pm π) i) (Instr.extract v i):=by
 cases v with
 | tuple vs =>
   simp only[qn8,Instr.extract,yw];cases vs[i]? with
   |none=>exact Eqv.s _
   |some v=>exact Eqv.p rfl
 |_=>exact Eqv.s _
omit S in
theorem Eqv.makeInterface{t:TypeId}{v:Value}:Eqv P π (Value.pm π) (Instr.makeInterface t (v.pm π)) (Instr.makeInterface t v):=by
 unfold Instr.makeInterface;exact Eqv.b Eqv.n fun d=>by cases d <;> first|exact Eqv.s _|exact Eqv.p (by simp)
omit S in
theorem Eqv.lenOf{v:Value}:Eqv P π (fun x=>x) (Builtin.lenOf (v.pm π)) (Builtin.lenOf v):=by
 cases v <;> simp[Builtin.lenOf] <;> rfl
omit S in
theorem Eqv.firstCells{size n:Nat}{v:Value}:Eqv P π (Array.map (Value.pm π)) (Builtin.firstCells size n (v.pm π)) (Builtin.firstCells size n v):=by
 cases v with
 | slice a l c =>
   cases a with
   |none=>exact Eqv.p (by simp)
   |some a=>exact Eqv.loadCells
 |string s=>exact Eqv.p (by simp[Function.comp_def])
 |_=>exact Eqv.s _
omit S in
theorem qb6(zero:Array Value)(n:Nat):Builtin.zeroCells (zero.map (Value.pm π)) n=(Builtin.zeroCells zero n).map (Value.pm π):=by
 unfold Builtin.zeroCells;rw[yaI,Array.map_map];congr 1;funext i;simp only[qpv,Function.comp_def]
omit S in
theorem Eqv.holdsCells{a:Addr}{n:Nat}:Eqv P π (fun x=>x) (Builtin.holdsCells (a.pm π) n) (Builtin.holdsCells a n):=by
 unfold Builtin.holdsCells;exact Eqv.b Eqv.shape fun o=>by cases o <;> exact Eqv.p rfl
omit S in
theorem Eqv.mayShare{size sLen n:Nat}{base:Option Addr}{x:Value}:Eqv P π (fun x=>x) (Builtin.mayShare size sLen n (base.map (Addr.pm π)) (x.pm π)) (Builtin.mayShare size sLen n base x):=by
 unfold Builtin.mayShare;have hr:Eqv P π (fun x=>x) (match x.pm π with | .slice (some b) _ _=>(do Pure.pure (!(<-Builtin.holdsCells b (n * size)) || (base.map (Addr.pm π)).any (·.block == b.block)):Sem Bool)|_=>Pure.pure false)
  (match x with | .slice (some b) _ _=>(do Pure.pure (!(<-Builtin.holdsCells b (n * size)) || base.any (·.block == b.block)):Sem Bool)|_=>Pure.pure false):=by
  cases x with
  | slice a l c =>
    cases a with
    |none=>exact Eqv.p rfl
    | some b =>
      simp only[pm_slice,yp];refine Eqv.b Eqv.holdsCells fun t=>Eqv.p ?_;cases base <;> simp
  |_=>exact Eqv.p rfl
 cases base with
 |none=>exact Eqv.b (hα:=fun x=>x) (Eqv.p rfl) fun t=>Eqv.i yK (Eqv.p rfl) hr
 | some a =>
   refine Eqv.b Eqv.holdsCells fun u=>?_;have hf:Eqv P π (fun x=>x) (Go.frozen ((a.pm π).add (sLen / 2 * size))) (Go.frozen (a.add (sLen / 2 * size))):=by rw[<-qa4];exact Eqv.frozen
   exact Eqv.b hf fun v=>Eqv.b (hα:=fun x=>x) (Eqv.p rfl) fun t=>Eqv.i yK (Eqv.p rfl) hr
theorem Eqv.append{ts:Array TypeId}{ty:TypeId}{args:Array Value}:Eqv P π (Value.pm π) (Builtin.append_ ts ty (args.map (Value.pm π))) (Builtin.append_ ts ty args):=by
 unfold Builtin.append_;rw[yw,yw];cases ts[0]? with
 |none=>exact Eqv.s _
 |some sType=>
 cases args[0]? with
 |none=>exact Eqv.s _
 |some s=>
 cases args[1]? with
 |none=>exact Eqv.s _
 |some x=>
 simp only[yp];refine Eqv.b Eqv.n fun d=>?_;cases d with
 | slice elem =>
   cases s with
   | slice base sLen sCap =>
     simp only[pm_slice];refine Eqv.b Eqv.sizeOf fun size=>?_;have happ:∀(zeros:Bool) (n:Nat),Eqv P π (Array.map (Value.pm π))
      (if (!zeros)=true then Builtin.firstCells size n (x.pm π) else if n * size=0 then Pure.pure #[] else (do Pure.pure (Builtin.zeroCells (<-Go.zeroValue elem).cells n)):Sem (Array Value))
      (if (!zeros)=true then Builtin.firstCells size n x else if n * size=0 then Pure.pure #[] else (do Pure.pure (Builtin.zeroCells (<-Go.zeroValue elem).cells n)):Sem (Array Value)):=fun zeros n=>
      Eqv.i yK Eqv.firstCells (Eqv.i yK (Eqv.p (by simp)) (Eqv.b (Eqv.zeroValue S) fun z=>Eqv.p (by rw[qa2,qb6])))
     have hfirst:=Eqv.firstCells (P:=P) (π:=π) (size:=size) (n:=sLen) (v:=.slice base sLen sCap);simp only[pm_slice] at hfirst;have hgrow:∀(zeros:Bool) (n:Nat),Eqv P π (Value.pm π)
      (do let newCap <- Go.choose (.appendCap (sLen + n) sCap elem); let i <- Go.typeInfo elem; Go.askRoom (newCap * i.bytes); let old <- Builtin.firstCells size sLen (.slice (base.map (Addr.pm π)) sLen sCap)
          let new <-(if (!zeros)=true then Builtin.firstCells size n (x.pm π) else if n * size=0 then Pure.pure #[] else (do Pure.pure (Builtin.zeroCells (<-Go.zeroValue elem).cells n)):Sem (Array Value))
          let z <-Go.zeroValue elem;let r <-Go.newRow elem (old++new++Builtin.zeroCells z.cells (newCap - (sLen+n)));Pure.pure (.slice (some r) (sLen+n) newCap):Sem Value)
      (do let newCap <- Go.choose (.appendCap (sLen + n) sCap elem); let i <- Go.typeInfo elem; Go.askRoom (newCap * i.bytes); let old <- Builtin.firstCells size sLen (.slice base sLen sCap)
          let new <-(if (!zeros)=true then Builtin.firstCells size n x else if n * size=0 then Pure.pure #[] else (do Pure.pure (Builtin.zeroCells (<-Go.zeroValue elem).cells n)):Sem (Array Value))
          let z <-Go.zeroValue elem;let r <-Go.newRow elem (old++new++Builtin.zeroCells z.cells (newCap - (sLen+n)));Pure.pure (.slice (some r) (sLen+n) newCap):Sem Value):=by
      intro zeros n;refine Eqv.b Eqv.choose fun nc=>Eqv.b Eqv.typeInfo fun i=>Eqv.b Eqv.askRoom fun _=>Eqv.b hfirst fun old=>Eqv.b (happ zeros n) fun new=>Eqv.b (Eqv.zeroValue S) fun z=>?_;rw[qa2,qb6,<-ya2,<-ya2];exact Eqv.b Eqv.newRow fun a=>Eqv.p (by simp)
     have hstore:∀(new:Array Value) (n:Nat),Eqv P π (Value.pm π)
      (match (generalizing:=false) base.map (Addr.pm π) with|some a=>(do Go.storeCells (a.add (sLen * size)) (new.map (Value.pm π)).toList;Pure.pure (.slice (base.map (Addr.pm π)) (sLen+n) sCap))|_=>Pure.pure (.slice (base.map (Addr.pm π)) (sLen+n) sCap))
      (match (generalizing:=false) base with|some a=>(do Go.storeCells (a.add (sLen * size)) new.toList;Pure.pure (.slice base (sLen+n) sCap))|_=>Pure.pure (.slice base (sLen+n) sCap)):=by
      intro new n;cases base with
      |none=>exact Eqv.p (by simp)
      | some a =>
        simp only[yp,yV];rw[<-qa4];exact Eqv.b (Eqv.storeCells _ _) fun _=>Eqv.p (by simp)
     have hjp:=fun (zeros:Bool) (n:Nat)=>
      Eqv.i (c:=sLen+n<=sCap) (c':=sLen+n<=sCap) yK
       (Eqv.b (f':=fun new=>(match (generalizing:=false) base.map (Addr.pm π) with|some a=>(do Go.storeCells (a.add (sLen * size)) new.toList;Pure.pure (.slice (base.map (Addr.pm π)) (sLen+n) sCap))|_=>Pure.pure (.slice (base.map (Addr.pm π)) (sLen+n) sCap)))
        (f:=fun new=>(match (generalizing:=false) base with|some a=>(do Go.storeCells (a.add (sLen * size)) new.toList;Pure.pure (.slice base (sLen+n) sCap))|_=>Pure.pure (.slice base (sLen+n) sCap))) (happ zeros n) fun new=>hstore new n)
       (Eqv.b (P:=P) (π:=π) (Eqv.typeInfo (t:=elem)) fun i=>
        Eqv.guard (c := ((sLen + n : Nat) : Int) > IntKind.i64.max ∧ (zeros = true ∨ i.bytes = 0)) (c' := ((sLen + n : Nat) : Int) > IntKind.i64.max ∧ (zeros = true ∨ i.bytes = 0)) yK (Eqv.r S (.error "growslice: len out of range"))
         (Eqv.b (P:=P) (π:=π) (Eqv.typeInfo (t:=elem)) fun i=>
          Eqv.guard (c:=Builtin.nextslicecap (sLen+n) sCap * i.bytes > 2 ^ 48) (c':=Builtin.nextslicecap (sLen+n) sCap * i.bytes > 2 ^ 48) yK
           (Eqv.i (c := zeros = true) (c' := zeros = true) yK (Eqv.r S (.error "growslice: len out of range"))
            (Eqv.b (Eqv.mayShare (size := size) (sLen := sLen) (n := n) (base := base) (x := x)) fun b => Eqv.guard (c := (!b) = true) (c' := (!b) = true) yK (Eqv.mark qeh) (Eqv.u (.resourceLimit "append: a slice or a string whose bytes no memory bears"))))
           (hgrow zeros n)))
     have hz:=fun (zeros:Bool)=>
      Eqv.i (c:=zeros=true) (c':=zeros=true) yK
       (Eqv.b (Eqv.asInt (v := x)) fun v => Eqv.guard (c := IntKind.i64.wrap v < 0) (c' := IntKind.i64.wrap v < 0) yK (Eqv.r S (.error "makeslice: len out of range"))
        (Eqv.b (P:=P) (π:=π) (Eqv.typeInfo (t:=elem)) fun i=>Eqv.i (c:=IntKind.i64.wrap v * i.bytes > 2 ^ 48) (c':=IntKind.i64.wrap v * i.bytes > 2 ^ 48) yK
         (Eqv.b (Eqv.choose (q := .extern "append.ofMake.carriedOut" 2)) fun m => Eqv.b (hα := fun x : Unit => x) (Eqv.r S (.error (if (m == 1) = true then "makeslice: len out of range" else "growslice: len out of range"))) fun _ => Eqv.b (hα := fun x => x) (Eqv.p (a := (IntKind.i64.wrap v).toNat) rfl) fun n => hjp zeros n)
         (Eqv.b (hα:=fun x=>x) (Eqv.p (a:=(IntKind.i64.wrap v).toNat) rfl) fun n=>hjp zeros n)))
       (Eqv.b (Eqv.lenOf (v:=x)) fun n=>hjp zeros n)
     cases ts[1]? with
     |none=>exact Eqv.b (hα:=fun x=>x) (Eqv.p rfl) fun z=>hz z
     |some xt=>exact Eqv.b Eqv.n fun d=>Eqv.b (hα:=fun x=>x) (Eqv.p rfl) fun z=>hz z
   |_=>exact Eqv.s _
 |_=>exact Eqv.s _
omit S in
theorem Eqv.copy{ts:Array TypeId}{ty:TypeId}{args:Array Value}:Eqv P π (Value.pm π) (Builtin.copy_ ts ty (args.map (Value.pm π))) (Builtin.copy_ ts ty args):=by
 unfold Builtin.copy_;rw[yw,yw];cases ts[0]? with
 |none=>exact Eqv.s _
 |some dType=>
 cases args[0]? with
 |none=>exact Eqv.s _
 |some dst=>
 cases args[1]? with
 |none=>exact Eqv.s _
 |some src=>
 simp only[yp];refine Eqv.b Eqv.n fun d=>?_;cases d with
 | slice elem =>
   cases dst with
   | slice base dLen cap =>
     simp only[pm_slice];refine Eqv.b Eqv.lenOf fun n=>Eqv.b Eqv.sizeOf fun k=>Eqv.b Eqv.firstCells fun cs=>?_;cases base with
     |none=>exact Eqv.p (by simp)
     | some a =>
       simp only[yp,yV];exact Eqv.b (Eqv.storeCells _ _) fun _=>Eqv.p (by simp)
   |_=>exact Eqv.s _
 |_=>exact Eqv.s _
end
end
end Go.Pm
