import Derived.Test.YtoklolfaemhfnaaGreatDoorZ1
import GoSem.Step
import Derived.Test.YtoklolfaemhfnaaGreatDoorZaf
set_option maxRecDepth 100000
set_option maxHeartbeats 0
set_option linter.defProp false
namespace Go
section
abbrev J(x:Int):Θ:=ϲ x
abbrev aT(b o:Nat):Addr:=⟨b,o,none⟩
abbrev pT(b o:Nat):Θ:=.pointer (some ⟨b,o,none⟩)
abbrev sT(b n c:Nat):Θ:=.slice (some ⟨b,0,none⟩) n c
abbrev sN:Θ:=.slice none 0 0
abbrev World.z(w:Δ):Nat:=w.heap.size
def ya:type_of% @Array.getD_eq_getD_getElem?.{0}:=@Array.getD_eq_getD_getElem?
def yb:type_of% @Nat.le_refl:=@Nat.le_refl
def yd:type_of% @List.getElem_cons_zero.{0}:=@List.getElem_cons_zero
def ye:type_of% @List.getElem_cons_succ.{0}:=@List.getElem_cons_succ
def yf:type_of% @List.getElem_toArray.{0}:=@List.getElem_toArray
def yg:type_of% @Nat.lt_of_lt_of_le:=@Nat.lt_of_lt_of_le
def yh:type_of% @List.getElem?_eq_getElem.{0}:=@List.getElem?_eq_getElem
def yj:type_of% @List.getD_eq_getElem?_getD.{0}:=@List.getD_eq_getElem?_getD
def yk:type_of% @Array.getElem?_eq_some_iff.{0}:=@Array.getElem?_eq_some_iff
def yl:type_of% @Array.getElem?_eq_getElem.{0}:=@Array.getElem?_eq_getElem
def ym:type_of% @List.getElem?_eq_some_iff.{0}:=@List.getElem?_eq_some_iff
def yp:type_of% @Option.map_some.{0,0}:=@Option.map_some
def yr:type_of% @Nat.le_trans:=@Nat.le_trans
def yu:type_of% @List.mem_singleton.{0}:=@List.mem_singleton
def yv:type_of% @Option.getD_some.{0}:=@Option.getD_some
def yw:type_of% @Array.getElem?_map.{0,0}:=@Array.getElem?_map
def yx:type_of% @List.length_cons.{0}:=@List.length_cons
def yy:type_of% @List.mem_of_getElem?.{0}:=@List.mem_of_getElem?
def yz:type_of% @List.mem_append.{0}:=@List.mem_append
def yA:type_of% @Option.some.injEq.{0}:=@Option.some.injEq
def yB:type_of% @Bool.and_eq_true:=@Bool.and_eq_true
def yC:type_of% @List.length_append.{0}:=@List.length_append
def yD:type_of% @List.length_nil.{0}:=@List.length_nil
def yE:type_of% @Option.map_eq_some_iff.{0,0}:=@Option.map_eq_some_iff
def yF:type_of% @List.mem_cons.{0}:=@List.mem_cons
def yH:type_of% @Bool.false_eq_true:=@Bool.false_eq_true
def yJ:type_of% @List.size_toArray.{0}:=@List.size_toArray
def yK:type_of% @Iff.rfl:=@Iff.rfl
def yL:type_of% @List.length_map.{0,0}:=@List.length_map
def yM:type_of% @List.mem_filter.{0}:=@List.mem_filter
def yN:type_of% @List.map_cons.{0,0}:=@List.map_cons
def yO:type_of% @Option.bind_eq_some_iff.{0,0}:=@Option.bind_eq_some_iff
def yP:type_of% @Array.getElem?_setIfInBounds_ne.{0}:=@Array.getElem?_setIfInBounds_ne
def yR:type_of% @Array.getElem?_setIfInBounds_self_of_lt.{0}:=@Array.getElem?_setIfInBounds_self_of_lt
def yS:type_of% @Nat.zero_add:=@Nat.zero_add
def yU:type_of% @List.not_mem_nil.{0}:=@List.not_mem_nil
def yV:type_of% @Array.toList_map.{0,0}:=@Array.toList_map
def yW:type_of% @List.mem_map.{0,0}:=@List.mem_map
def yX:type_of% @List.take_of_length_le.{0}:=@List.take_of_length_le
def yY:type_of% @List.mem_cons_self.{0}:=@List.mem_cons_self
def yZ:type_of% @List.getElem?_map.{0,0}:=@List.getElem?_map
def y4:type_of% @List.getElem_of_mem.{0}:=@List.getElem_of_mem
def y5:type_of% @List.all_eq_true.{0}:=@List.all_eq_true
def y6:type_of% @List.mem_cons_of_mem.{0}:=@List.mem_cons_of_mem
def y7:type_of% @List.getElem?_append_left.{0}:=@List.getElem?_append_left
def y8:type_of% @List.map_append.{0,0}:=@List.map_append
def zD:type_of% @List.mem_range:=@List.mem_range
def AG:type_of% @Array.length_toList.{0}:=@Array.length_toList
def LK:type_of% @Array.getElem?_setIfInBounds.{0}:=@Array.getElem?_setIfInBounds
theorem Ku:type_of% @Array.all_eq_true_iff_forall_mem.{0}:=@Array.all_eq_true_iff_forall_mem
def LL:type_of% @List.getElem?_set_self.{0}:=@List.getElem?_set_self
def Cy:type_of% @List.mem_toArray.{0}:=@List.mem_toArray
def Ft:type_of% @List.cons_append.{0}:=@List.cons_append
def CM:type_of% @Int.toNat_natCast:=@Int.toNat_natCast
def yaj:type_of% @Array.mem_of_getElem?.{0}:=@Array.mem_of_getElem?
def AH:type_of% @List.getElem?_cons_zero.{0}:=@List.getElem?_cons_zero
def Fi:type_of% @Int.eq_ofNat_of_zero_le:=@Int.eq_ofNat_of_zero_le
def xk:type_of% @List.length_take.{0}:=@List.length_take
def xl:type_of% @Nat.not_lt:=@Nat.not_lt
def LM:type_of% @List.getElem?_set_ne.{0}:=@List.getElem?_set_ne
def LN:type_of% @Array.ext_getElem?.{0}:=@Array.ext_getElem?
def Lu:type_of% @List.take_succ_eq_append_getElem.{0}:=@List.take_succ_eq_append_getElem
def Kv:type_of% @List.cons.injEq.{0}:=@List.cons.injEq
def Fj:type_of% @List.map_toArray.{0,0}:=@List.map_toArray
def CN:type_of% @Prod.mk.injEq.{0,0}:=@Prod.mk.injEq
def I3:type_of% @List.append_assoc.{0}:=@List.append_assoc
def Fl:type_of% @List.getElem?_append_right.{0}:=@List.getElem?_append_right
def Lv:type_of% @List.eq_nil_of_length_eq_zero.{0}:=@List.eq_nil_of_length_eq_zero
def oI:type_of% @Nat.zero_le:=@Nat.zero_le
def Hq:type_of% @List.mem_map_of_mem.{0,0}:=@List.mem_map_of_mem
def AD:type_of% @List.map_map.{0,0,0}:=@List.map_map
def GZ:type_of% @List.nodup_append.{0}:=@List.nodup_append
def I0:type_of% @List.eraseIdx_sublist.{0}:=@List.eraseIdx_sublist
def LI:type_of% @Array.getElem?_modify.{0}:=@Array.getElem?_modify
theorem Kl:type_of% @List.append_cancel_right.{0}:=@List.append_cancel_right
def I1:type_of% @Array.size_map.{0,0}:=@Array.size_map
def Hr:type_of% @Array.append_empty.{0}:=@Array.append_empty
def Cx:type_of% @List.map_nil.{0,0}:=@List.map_nil
def Km:type_of% @List.mem_flatMap.{0,0}:=@List.mem_flatMap
theorem Lc:type_of% @List.take_add_one.{0}:=@List.take_add_one
def Ko:type_of% @List.length_set.{0}:=@List.length_set
def Kp:type_of% @List.mem_iff_getElem?.{0}:=@List.mem_iff_getElem?
def I2:type_of% @List.length_replicate.{0}:=@List.length_replicate
def G3:type_of% @List.length_filter_le.{0}:=@List.length_filter_le
def Kq:type_of% @Nat.lt_succ_iff_lt_or_eq:=@Nat.lt_succ_iff_lt_or_eq
def AE:type_of% @List.take_length.{0}:=@List.take_length
def AF:type_of% @List.getElem_mem.{0}:=@List.getElem_mem
def Kr:type_of% @Bool.not_eq_true:=@Bool.not_eq_true
def yaW:type_of% @List.getElem?_replicate.{0}:=@List.getElem?_replicate
def Ks:type_of% @Nat.lt_trichotomy:=@Nat.lt_trichotomy
def Ld:type_of% @Int.le_refl:=@Int.le_refl
def IX:type_of% @List.append_nil.{0}:=@List.append_nil
def GU:type_of% @List.map_congr_left.{0,0}:=@List.map_congr_left
def IY:type_of% @Array.map_append.{0,0}:=@Array.map_append
def Fs:type_of% @Nat.lt_or_ge:=@Nat.lt_or_ge
def GV:type_of% @Nat.add_zero:=@Nat.add_zero
def K9:type_of% @List.pairwise_cons.{0}:=@List.pairwise_cons
def La:type_of% @List.filter_append.{0}:=@List.filter_append
def ya7:type_of% @List.getElem?_toArray.{0}:=@List.getElem?_toArray
def Lb:type_of% @List.pairwise_iff_getElem.{0}:=@List.pairwise_iff_getElem
def Le:type_of% @Array.mem_singleton.{0}:=@Array.mem_singleton
def Lw:type_of% @Option.elim_none.{0,0}:=@Option.elim_none
def I5:type_of% @List.length_drop.{0}:=@List.length_drop
def Kw:type_of% @List.getElem_map.{0,0}:=@List.getElem_map
def Kx:type_of% @Array.mem_append.{0}:=@Array.mem_append
def Lf:type_of% @List.drop_eq_nil_of_le.{0}:=@List.drop_eq_nil_of_le
def Lg:type_of% @Nat.eq_zero_or_pos:=@Nat.eq_zero_or_pos
def Lh:type_of% @Array.forIn_toList.{0,0,0}:=@Array.forIn_toList
def Li:type_of% @List.setIfInBounds_toArray.{0}:=@List.setIfInBounds_toArray
def LO:type_of% @Nat.lt_succ_self:=@Nat.lt_succ_self
def Lj:type_of% @List.ext_getElem.{0}:=@List.ext_getElem
instance:CoeOut World Nat:=⟨λw=>w.heap.size⟩
end
end Go
section
namespace Go.Pm
open Go
def dA:Fn->Fn
 |.func f=>.func f
 |.method n=>.methodOf 0 n
 |.methodOf 0 n=>.method n
 |.methodOf (t+1) n=>.methodOf ((t^^^1)+1) n
 |.via t p f b=>.via t p f (!b)
 |.yield l=>.yield (l^^^1)
def ux(x:Fn):dA (dA x)=x:=by
 have a:∀n:Nat,n^^^1^^^1=n:=λn=>ν;cases x with
 |methodOf t n=>cases t<;>simp[dA,a]
 |yield l=>grind[dA]
 |_=>simp[dA]
theorem dP(n:Nat):n^^^1≠n:=λh=>by
 have:n^^^1^^^n=n^^^n:=by rw[h]
 grind
def A4{x:Fn}(h:∀f,x≠.func f):dA x≠x:=by
 cases x with
 |func f=>grind
 |method n=>simp[dA]
 |methodOf t n=>cases t with
   |zero=>simp[dA]
   |succ t=>simp[dA,dP]
 |via t p f b=>grind[dA]
 |yield l=>simp[dA,dP]
structure Perm where
 f:Nat->Nat
 i:Nat->Nat
 c:∀x,f (i x)=x
 a:∀x,i (f x)=x
 g:Nat->Nat
 j:Nat->Nat
 e:∀x,g (j x)=x
 d:∀x,j (g x)=x
 h:Nat->Nat
 k:Nat->Nat
 l:∀x,h (k x)=x
 m:∀x,k (h x)=x
 b:Bool
namespace Perm
def id:Perm:=⟨λx=>x,λx=>x,λ_=>rfl,λ_=>rfl,λx=>x,λx=>x,λ_=>rfl,λ_=>rfl,λx=>x,λx=>x,λ_=>rfl,λ_=>rfl,false⟩
def MS(U:Perm):Perm:=⟨U.i,U.f,U.a,U.c,U.j,U.g,U.d,U.e,U.k,U.h,U.m,U.l,U.b⟩
def Mg(U C:Perm):Perm:=
 ⟨λx=>U.f (C.f x),λx=>C.i (U.i x),λx=>by simp [C.c,U.c],λx=>by simp [C.a,U.a],
  λx=>U.g (C.g x),λx=>C.j (U.j x),λx=>by simp[C.e,U.e],λx=>by simp[C.d,U.d],
  λx=>U.h (C.h x),λx=>C.k (U.k x),λx=>by simp[C.l,U.l],λx=>by simp[C.m,U.m],U.b !=C.b⟩
structure Nf(U:Perm):Prop where
 f:∀x,U.f x=x
 g:∀x,U.g x=x
 h:∀x,U.h x=x
 b:U.b=false
def M7(a:Perm):(a.Mg a.MS).Nf:=⟨a.c,a.e,a.l,by simp[Mg,MS]⟩
def M8(a:Perm):(a.MS.Mg a).Nf:=⟨a.a,a.d,a.m,by simp[Mg,MS]⟩
def Nd(c:Perm){a b:Nat}(h:c.f a=c.f b):a=b:=by rw[<-c.a a,<-c.a b,h]
@[simp] theorem Nr (c:Perm) (a b:Nat):c.f a=c.f b↔a=b:=⟨c.Nd,λh=>by rw[h]⟩
@[simp] theorem Nq (c:Perm) (a b:Nat):(c.f a==c.f b)=(a==b):=by rw[Bool.eq_iff_iff];simp
def Nn(U:Perm)(a b:Nat):Perm:=
 {U with
   f:=λx=>if U.f x=a then b else if U.f x=b then a else U.f x
   i:=λx=>if x=a then U.i b else if x=b then U.i a else U.i x
   c:=λx=>by
     by_cases h1:x=a
     subst h1;simp[U.c]
     .by_cases h2:x=b
      subst h2;simp[h1,U.c]
      .simp[h1,h2,U.c]
   a:=λx=>by
     by_cases h1:U.f x=a
     simp only[h1,if_true];by_cases h3:b=a;subst h3;simp;rw[<-h1,U.a];simp[h3];rw[<-h1,U.a];by_cases h2:U.f x=b
     rw[if_neg h1,if_pos h2,if_pos rfl,<-h2,U.a];simp[h1,h2,U.a]}
end Perm
def _root_.Go.Addr.pm(U:Perm)(a:Addr):Addr:={a with block:=U.f a.block}
def _root_.Go.Fn.pm(U:Perm):Fn->Fn
 |.func f=>.func (U.g f)
 |x=>if U.b then dA x else x
mutual
def _root_.Go.Value.pm(U:Perm):Value->Value
 |.bool b=>.bool b
 |.int k n=>.int k n
 |.float k b=>.float k b
 |.complex k a b=>.complex k a b
 |.string s=>.string s
 |.pointer a=>.pointer (a.map (Addr.pm U))
 |.slice a l c=>.slice (a.map (Addr.pm U)) l c
 |.map r=>.map (r.map U.f)
 |.chan r=>.chan (r.map U.f)
 |.func fn first captured=>.func (fn.pm U) (zO U first) (zO U captured)
 |.nilFunc=>.nilFunc
 |.iface t v=>.iface t (v.pm U)
 |.nilIface=>.nilIface
 |.agg cs=>.agg (zO U cs)
 |.tuple vs=>.tuple (zO U vs)
def zO(U:Perm):Array Value->Array Value
 |⟨l⟩=>⟨xi U l⟩
def xi(U:Perm):List Value->List Value
 |[]=>[]
 |v::l=>v.pm U::xi U l
end
abbrev Perm.v(U:Perm):=Value.pm U
def Dk(a:Perm):∀l:Ϣ,xi a l=l.map a.v
 |[]=>by simp[xi]
 |v::l=>by simp[xi,Dk a l]
def fp(b:Perm)(a:ϡ):zO b a=a.map b.v:=by let⟨l⟩:=a;simp[zO,Dk]
section
variable (U:Perm)
@[simp]theorem FA(b:Bool):(Value.bool b).pm U=.bool b:=by simp[Value.pm]
@[simp] theorem eF (k:IntKind) (n:Int):(Value.int k n).pm U=.int k n:=by simp[Value.pm]
@[simp] theorem uL (k:FloatKind) (n:Nat):(Value.float k n).pm U=.float k n:=by simp[Value.pm]
@[simp] theorem iT (k:FloatKind) (n m:Nat):(Value.complex k n m).pm U=.complex k n m:=by simp[Value.pm]
@[simp] theorem ru (s:ϝ):(Value.string s).pm U=.string s:=by simp[Value.pm]
@[simp] theorem bh (a:ϣ):(Value.pointer a).pm U=.pointer (a.map (Addr.pm U)):=by simp[Value.pm]
@[simp] theorem jA (a:ϣ) (l c:Nat):(Value.slice a l c).pm U=.slice (a.map (Addr.pm U)) l c:=by simp[Value.pm]
@[simp] theorem Ly (r:Option Nat):(Value.map r).pm U=.map (r.map U.f):=by simp[Value.pm]
@[simp] theorem Lm (r:Option Nat):(Value.chan r).pm U=.chan (r.map U.f):=by simp[Value.pm]
@[simp] theorem sI (f:Fn) (a b:ϡ):(Value.func f a b).pm U=.func (f.pm U) (a.map U.v) (b.map U.v):=by simp[Value.pm,fp]
@[simp] theorem Hz:(Value.nilFunc).pm U=.nilFunc:=by simp[Value.pm]
@[simp] theorem Dm (t:ϟ) (v:Θ):(Value.iface t v).pm U=.iface t (v.pm U):=by simp[Value.pm]
@[simp] theorem Ha:(Value.nilIface).pm U=.nilIface:=by simp[Value.pm]
@[simp] theorem kY (a:ϡ):(Value.agg a).pm U=.agg (a.map U.v):=by simp[Value.pm,fp]
@[simp] theorem Dn (a:ϡ):(Value.tuple a).pm U=.tuple (a.map U.v):=by simp[Value.pm,fp]
@[simp] theorem Hb:noResult.pm U=noResult:=by simp[noResult]
@[simp] theorem KF (n:Int):(goInt n).pm U=goInt n:=by simp[goInt]
@[simp] theorem I8 (s:String):(strVal s).pm U=strVal s:=by simp[strVal]
end
@[simp] theorem eQ (b:Perm) (a:Addr) (n:Nat):(a.add n).pm b=(a.pm b).add n:=by unfold Addr.add Addr.pm;split<;>rfl
@[simp] theorem kB (b:Perm) (a:Addr):(a.pm b).block=b.f a.block:=rfl
@[simp] theorem eR (b:Perm) (a:Addr):(a.pm b).off=a.off:=rfl
@[simp] theorem iR (b:Perm) (a:Addr):(a.pm b).spot=a.spot:=rfl
@[simp] theorem Hy (a:Perm) (b o:Nat) (s:Option Nat):Addr.pm a ⟨b,o,s⟩=⟨a.f b,o,s⟩:=rfl
@[simp] theorem G8 (c:Perm) (a b:Addr):a.pm c=b.pm c↔a=b:=by
  constructor;intro h;cases a;simp[Addr.pm]at h;simp[h]
  .intro h;rw[h]
@[simp] theorem G7 (c:Perm) (a b:Addr):(a.pm c==b.pm c)=(a==b):=by rw[Bool.eq_iff_iff];simp
def bZ(b c:Perm)(a:Addr):(a.pm c).pm b=a.pm (b.Mg c):=rfl
def jy(a:Perm){x:Fn}(h:∀f,x≠.func f):x.pm a=if a.b then dA x else x:=by cases x<;>first|rfl|grind
def A6{x:Fn}(h:∀f,x≠.func f):∀f,dA x≠.func f:=by
 cases x with
 |func f=>grind
 |methodOf t n=>cases t<;>simp[dA]
 |_=>simp[dA]
def oW(c g:Perm)(a:Fn):(a.pm g).pm c=a.pm (c.Mg g):=by
 by_cases h:∃f,a=.func f
 obtain⟨f,rfl⟩:=h;rfl;have d:=λf e=>h ⟨f,e⟩;rw[jy g d,jy _ d];cases j:g.b
 .simp_all[jy,Perm.Mg]
 rw[if_pos rfl,jy c (A6 d)];cases i:c.b<;>simp[Perm.Mg,j,i,ux]
def Dg(c:Perm)(h:c.Nf)(a:Fn):a.pm c=a:=by cases a<;>simp[Fn.pm,h.g,h.b]
mutual
theorem pm_comp(c d:Perm):∀v:Value,(v.pm d).pm c=v.pm (c.Mg d)
 |.bool _|.int _ _|.float _ _|.complex _ _ _|.string _|.nilFunc|.nilIface=>by simp
 |.pointer a=>by simp[Function.comp_def,bZ]
 |.slice a _ _=>by simp[Function.comp_def,bZ]
 |.map r=>by simp[Function.comp_def,Perm.Mg]
 |.chan r=>by simp[Function.comp_def,Perm.Mg]
 |.iface t v=>by simp[pm_comp c d v]
 |.func f a b=>by have e:=lQ c d a;have g:=lQ c d b;simp_all[fp,oW]
 |.agg a=>by have e:=lQ c d a;simp_all[fp]
 |.tuple a=>by have e:=lQ c d a;simp_all[fp]
theorem lQ(c d:Perm):∀a:Array Value,zO c (zO d a)=zO (c.Mg d) a
 |⟨l⟩=>by simp only[zO,uK c d l]
theorem uK(c d:Perm):∀l:List Value,xi c (xi d l)=xi (c.Mg d) l
 |[]=>by simp[xi]
 |v::l=>by simp[xi,pm_comp c d v,uK c d l]
end
mutual
theorem rr(c:Perm)(h:c.Nf):∀v:Value,v.pm c=v
 |.bool _|.int _ _|.float _ _|.complex _ _ _|.string _|.nilFunc|.nilIface=>by simp
 |.pointer none=>by simp
 |.pointer (some a)=>by simp[Addr.pm,h.f]
 |.slice none _ _=>by simp
 |.slice (some a) _ _=>by simp[Addr.pm,h.f]
 |.map none=>by simp
 |.map (some r)=>by simp[h.f]
 |.chan none=>by simp
 |.chan (some r)=>by simp[h.f]
 |.iface t v=>by simp[rr c h v]
 |.func f a b=>by have d:=oY c h a;have e:=oY c h b;simp_all[fp,Dg]
 |.agg a=>by have d:=oY c h a;simp_all[fp]
 |.tuple a=>by have d:=oY c h a;simp_all[fp]
theorem oY(c:Perm)(h:c.Nf):∀a:Array Value,zO c a=a
 |⟨l⟩=>by simp only[zO,Dl c h l]
theorem Dl(c:Perm)(h:c.Nf):∀l:List Value,xi c l=l
 |[]=>by simp[xi]
 |v::l=>by simp[xi,rr c h v,Dl c h l]
end
@[simp] theorem Lx (a:Perm) (v:Θ):(v.pm a.MS).pm a=v:=by rw[pm_comp];exact rr _ a.M7 v
@[simp] theorem zP (a:Perm) (v:Θ):(v.pm a).pm a.MS=v:=by rw[pm_comp];exact rr _ a.M8 v
end Go.Pm
end
namespace Go.Pm
section
open Go
def _root_.Go.MapEntry.pm(U:Perm)(e:MapEntry):MapEntry:={e with key:=e.key.pm U,val:=e.val.pm U}
def _root_.Go.Obj.pm(U:Perm):Obj->Obj
 |.cells c e fz=>.cells (c.map U.v) e fz
 |.pending c e=>.pending (c.map U.v) (U.h e)
 |.view a t=>.view (a.pm U) (U.h t)
 |.number a l=>.number (a.pm U) l
 |.map es c=>.map (es.map (MapEntry.pm U)) c
 |.mapIter m s seen st=>.mapIter (m.map U.f) s seen st
 |.chan cap buf cl st rc tm=>.chan cap (buf.map U.v) (cl !=U.b) st rc tm
 |.loop l=>.loop {l with tmps:=l.tmps.map U.v,defers:=U.f l.defers}
 |o=>o
def _root_.Go.Target.pm(U:Perm):Target->Target
 |.fn fn captured=>.fn (fn.pm U) (captured.map U.v)
 |t=>t
def _root_.Go.Deferred.pm(U:Perm)(d:Deferred):Deferred:={target:=d.target.pm U,args:=d.args.map U.v}
def dF:Halt->Halt
 |.blocked=>.waiting
 |.waiting=>.blocked
 |.goexit=>.exit 0
 |.exit c=>if c=0 then .goexit else .exit (-c)
 |.fatal m=>.throw m
 |.throw m=>.fatal m
 |h=>h
def _root_.Go.Halt.pm(U:Perm):Halt->Halt
 |.panic v=>.panic (v.pm U)
 |.unsupported (.initOrder g)=>.unsupported (.initOrder (U.h g))
 |.unsupported u=>.unsupported u
 |.stuck s=>.stuck s
 |h=>if U.b then dF h else h
def pj(a:Perm){u:Unsupported}(h:∀g,u≠.initOrder g):(Halt.unsupported u).pm a=.unsupported u:=by cases u<;>first|rfl|grind
def ee(U:Perm):Mark->Mark
 |.acquire a=>.acquire (a.pm U)
 |.release a=>.release (a.pm U)
 |.releaseMerge a=>.releaseMerge (a.pm U)
 |.read a=>.read (a.pm U)
 |.write a=>.write (a.pm U)
 |m=>m
def dG:Mark->Mark
 |.acquire a=>.release a
 |.release a=>.acquire a
 |.releaseMerge a=>.releaseMerge {a with off:=a.off^^^1}
 |.read a=>.write a
 |.write a=>.read a
 |.disable=>.enable
 |.enable=>.disable
 |.extern f=>.extern (f^^^1)
 |.noRoom=>.noRoom
def qy(m:Mark):dG (dG m)=m:=by have a:∀n:Nat,n^^^1^^^1=n:=λn=>ν;cases m<;>simp[dG,a]
def uE{m:Mark}(h:m≠.noRoom):dG m≠m:=by
 cases m with
 |releaseMerge a=>intro e;simp only[dG,Mark.releaseMerge.injEq]at e;exact dP a.off ν
 |extern f=>grind[dG,dP]
 |noRoom=>grind
 |_=>simp[dG]
def _root_.Go.Mark.pm(U:Perm)(m:Mark):Mark:=if U.b then dG (ee U m) else ee U m
def _root_.Go.Next.pm(U:Perm):Next->Next
 |.value v=>.value (v.pm U)
 |.enter f args=>.enter (U.g f) (args.map U.v)
 |.defer d=>.defer (d.pm U)
 |.spawn d=>.spawn (d.pm U)
 |.round l f tmps a b=>.round (U.f l) f (tmps.map U.v) a b
 |n=>n
def Dc(b c:Perm)(a:ϡ):(a.map c.v).map b.v=a.map (Value.pm (b.Mg c)):=by grind[pm_comp]
theorem sA(b:Perm)(h:b.Nf)(a:ϡ):a.map b.v=a:=by rw[<-fp];grind[oY]
def xy(a b:Perm)(e:MapEntry):(e.pm b).pm a=e.pm (a.Mg b):=by simp[MapEntry.pm,pm_comp]
def Df(a:Perm)(h:a.Nf)(e:MapEntry):e.pm a=e:=by simp[MapEntry.pm,rr a h]
theorem obj_comp(a c:Perm)(o:Obj):(o.pm c).pm a=o.pm (a.Mg c):=by
 cases o with
 |chan f d e h g i=>
  simp only[Obj.pm,Dc,Perm.Mg,Obj.chan.injEq,true_and,and_true];cases e<;>cases c.b<;>cases a.b<;>rfl
 |_=>simp[Obj.pm,bZ,Function.comp_def,xy,pm_comp]<;>rfl
theorem kX(d:Perm)(h:d.Nf)(o:Obj):o.pm d=o:=by
 cases o with
 |cells c e q=>grind[Obj.pm,sA]
 |pending c e=>simp[Obj.pm,sA d h,h.h]
 |view a t=>simp[Obj.pm,Addr.pm,h.f,h.h]
 |number a l=>simp[Obj.pm,Addr.pm,h.f]
 |map g c=>
  have:g.map (MapEntry.pm d)=g:=by apply LN;intro i;rw[yw];cases g[i]? <;>simp[Df d h]
  grind[Obj.pm]
 |mapIter m s j p=>cases m<;>simp[Obj.pm,h.f]
 |chan n k r p u v=>simp[Obj.pm,sA d h,h.b]
 |loop l=>simp_all[Obj.pm,sA,Perm.Nf.f]
 |_=>rfl
@[simp] theorem Ll (a:Perm) (o:Obj):(o.pm a.MS).pm a=o:=by rw[obj_comp];exact kX _ a.M7 o
@[simp] theorem uG (a:Perm) (o:Obj):(o.pm a).pm a.MS=o:=by rw[obj_comp];exact kX _ a.M8 o
def _root_.Go.Sem.bN{M K:Type}(U:Perm)(h:M->K):Sem M->Sem K
 |.pure a=>.pure (h a)
 |.load m a k=>.load m (a.pm U) λv=>(k (v.pm U.MS)).bN U h
 |.store m a v k=>.store m (a.pm U) (v.pm U) (k.bN U h)
 |.new o k=>.new (o.pm U) λr=>(k (U.i r)).bN U h
 |.shape r k=>.shape (U.f r) λs=>(k s).bN U h
 |.freeze a n k=>.freeze (a.pm U) n (k.bN U h)
 |.frozen a k=>.frozen (a.pm U) λb=>(k b).bN U h
 |.getObj r k=>.getObj (U.f r) λo=>(k (o.pm U.MS)).bN U h
 |.setObj r o k=>.setObj (U.f r) (o.pm U) (k.bN U h)
 |.choose q k=>.choose q λn=>(k n).bN U h
 |.sys _ _=>.halt (.stuck "sys")
 |.program k=>.program λp=>(k p).bN U h
 |.mark m k=>.mark (m.pm U) (k.bN U h)
 |.halt x=>.halt (x.pm U)
def _root_.Go.Halt.er:Halt->Halt
 |.panic _=>.panic .nilIface
 |h=>h
def _root_.Go.Sem.bz{M:Type}(P:ϛ):Sem M->Sem M
 |.pure a=>.pure a
 |.load m a k=>.load m a λv=>(k v).bz P
 |.store m a v k=>.store m a v (k.bz P)
 |.new o k=>.new o λr=>(k r).bz P
 |.shape r k=>.shape r λs=>(k s).bz P
 |.freeze a n k=>.freeze a n (k.bz P)
 |.frozen a k=>.frozen a λb=>(k b).bz P
 |.getObj r k=>.getObj r λo=>(k o).bz P
 |.setObj r o k=>.setObj r o (k.bz P)
 |.choose q k=>.choose q λn=>(k n).bz P
 |.sys c k=>.sys c λr=>(k r).bz P
 |.program k=>(k P).bz P
 |.mark m k=>.mark m (k.bz P)
 |.halt x=>.halt x.er
def rq{c d:Type}(P:ϛ)(s:Sem c)(f:c->Sem d):(s.bind f).bz P=(s.bz P).bind λa=>(f a).bz P:=by
 induction s with
 |pure a=>rfl
 |halt h=>rfl
 |store m a v k b=>simp only[Sem.bind,Sem.bz,b]
 |freeze a n k b=>simp only[Sem.bind,Sem.bz,b]
 |setObj r o k b=>simp only[Sem.bind,Sem.bz,b]
 |mark m k b=>simp only[Sem.bind,Sem.bz,b]
 |program k b=>simp only[Sem.bind,Sem.bz,b]
 |_=>simp only[Sem.bind,Sem.bz];congr 1;funext x;rename_i b;exact b x
def sx{g l j i:Type}{e:Perm}{d:g->l}{h:j->i}{f:g->Sem j}{f':l->Sem i}(p:∀a,f' (d a)=(f a).bN e h)(s:Sem g):(s.bN e d).bind f'=(s.bind f).bN e h:=by
 induction s with
 |pure a=>exact p a
 |halt h=>rfl
 |store m a v k b=>simp only[Sem.bind,Sem.bN,b]
 |freeze a n k b=>simp only[Sem.bind,Sem.bN,b]
 |setObj r o k b=>simp only[Sem.bind,Sem.bN,b]
 |mark m k b=>simp only[Sem.bind,Sem.bN,b]
 |sys c k b=>rfl
 |_=>simp only[Sem.bind,Sem.bN];congr 1;funext x;rename_i b;exact b _
def ay{M K:Type}(P:ϛ)(U:Perm)(h:M->K)(s':Sem K)(s:Sem M):Prop:=s'.bz P=(s.bz P).bN U h
section
variable {P:ϛ}{U:Perm}{M K γ δ:Type}
def ay.a{hα:M->K}{h:γ->δ}{s:Sem M}{b:Sem K}{f:M->Sem γ}{f':K->Sem δ}(d:ay P U hα b s)(c:∀a,ay P U h (f' (hα a)) (f a)):ay P U h (b>>=f') (s>>=f):=by
 show (b.bind f').bz P=((s.bind f).bz P).bN U h;rw[rq,rq,d];exact sx (f':=λa=>(f' a).bz P) c _
def ay.prog{h:γ->δ}{f:ϛ->Sem γ}{a:ϛ->Sem δ}(b:ay P U h (a P) (f P)):ay P U h (program>>=a) (program>>=f):=b
def ay.c{h:M->K}{a:M}{b:K}(e:b=h a):ay P U h (Pure.pure b:Sem K) (Pure.pure a:Sem M):=by subst e;rfl
theorem ay.d{h:M->K}(s:String):ay P U h (Go.stuck s:Sem K) (Go.stuck s:Sem M):=rfl
def ay.b{h:M->K}(s:Unsupported)(a:∀g,s≠.initOrder g:=by intro _ h;cases h):ay P U h (Go.unsupported s:Sem K) (Go.unsupported s:Sem M):=by unfold ay Go.unsupported;simp only[Sem.bz,Halt.er,Sem.bN,pj U a]
def ay.a2{h:M->K}(v a:Θ):ay P U h (Go.goPanic a:Sem K) (Go.goPanic v:Sem M):=by simp[ay,Go.goPanic,Sem.bz,Halt.er,Sem.bN,Halt.pm]
def ay.i2{a:Addr}{m:Mode}:ay P U U.v (Go.load (a.pm U) m) (Go.load a m):=by simp[ay,Go.load,Sem.bN,Sem.bz]
def ay.l3{a:Addr}{v:Θ}{m:Mode}:ay P U (λx=>x) (Go.store (a.pm U) (v.pm U) m) (Go.store a v m):=rfl
def ay.c5{o:Obj}:ay P U U.f (Go.newObj (o.pm U)) (Go.newObj o):=by simp[ay,Go.newObj,Sem.bN,Sem.bz,U.c]
def ay.a0{r:Nat}:ay P U (λx=>x) (Go.shape (U.f r)) (Go.shape r):=rfl
def ay.j0{a:Addr}{n:Nat}:ay P U (λx=>x) (Go.freeze (a.pm U) n) (Go.freeze a n):=rfl
def ay.c4{a:Addr}:ay P U (λx=>x) (Go.frozen (a.pm U)) (Go.frozen a):=rfl
def ay.m{r:Nat}:ay P U (Obj.pm U) (Go.getObj (U.f r)) (Go.getObj r):=by simp[ay,Go.getObj,Sem.bN,Sem.bz]
def ay.v{r:Nat}{o:Obj}:ay P U (λx=>x) (Go.setObj (U.f r) (o.pm U)) (Go.setObj r o):=rfl
def ay.l{q:Question}:ay P U (λx=>x) (Go.choose q) (Go.choose q):=rfl
def ay.j8{m a:Mark}(e:a=m.pm U):ay P U (λx=>x) (Go.mark a) (Go.mark m):=by subst e;rfl
def mR:Mark.noRoom=Mark.noRoom.pm U:=by unfold Mark.pm;cases U.b<;>rfl
def ay.o{t:ϟ}:ay P U (λx=>x) (Go.typeInfo t) (Go.typeInfo t):=ay.prog (by split<;>rfl)
def ay.e{t:ϟ}:ay P U (λx=>x) (Go.underlying t) (Go.underlying t):=ay.prog (by split<;>rfl)
def ay.k{t:ϟ}:ay P U (λx=>x) (Go.sizeOf t) (Go.sizeOf t):=ay.a ay.o λ_=>rfl
def ay.i0{t:ϟ}:ay P U (λx=>x) (Go.isAgg t) (Go.isAgg t):=ay.a ay.e λd=>by cases d<;>rfl
def ay.f5{n:Nat}:ay P U (λx=>x) (Go.askRoom n) (Go.askRoom n):=by unfold Go.askRoom;split;exact ay.j8 mR;rfl
def ay.i{h:M->K}{c c':Prop}[Decidable c][Decidable c']{s t:Sem M}{d b:Sem K}(e:c'↔c)(g:ay P U h d s)(f:ay P U h b t):ay P U h (if c' then d else b) (if c then s else t):=by
 grind
end
structure dE(p:ϛ)(U:Perm):Prop where
 a:∀r,U.f r<p.globals.size↔r<p.globals.size
 zero:∀t i v,p.info? t=some i->i.zero=some v->v.pm U=v
section
variable {P:ϛ}{U:Perm}(S:dE P U){M K:Type}
include S
def ay.p{t:ϟ}:ay P U U.v (Go.zeroValue t) (Go.zeroValue t):=by rcases h:P.info? t with _|i;simp[ay,Go.zeroValue,Go.typeInfo,program,Bind.bind,Sem.bind,Sem.bz,h,Go.stuck,Sem.bN,Halt.pm,Halt.er];rcases a:i.zero with _|v;simp[ay,Go.zeroValue,Go.typeInfo,program,Bind.bind,Sem.bind,Sem.bz,h,a,Go.unsupported,Sem.bN,Halt.pm,Halt.er,Pure.pure];simp[ay,Go.zeroValue,Go.typeInfo,program,Bind.bind,Sem.bind,Sem.bz,h,a,Sem.bN,Pure.pure,S.zero t i v h a]
end
@[simp] theorem ed (a:Perm) (v:Θ):(v.pm a).cells=v.cells.map a.v:=by cases v<;>simp[Value.cells]
section
variable {P:ϛ}{U:Perm}{M K γ δ:Type}
def ay.n{h:M->K}{c c':Prop}[Decidable c][Decidable c']{s d:Sem Unit}{r:Sem M}{a:Sem K}(e:c'↔c)(f:ay P U (λx=>x) d s)(b:ay P U h a r):ay P U h (if c' then (d>>=λ_=>a) else a) (if c then (s>>=λ_=>r) else r):=ay.i e (ay.a f λ_=>b) b
def ay.a8{a:Addr}:∀(n i:Nat)(b:ϡ),ay P U (Array.map U.v) (Go.loadCellsFrom (a.pm U) i n (b.map U.v)) (Go.loadCellsFrom a i n b)
 |0,_,_=>ay.c rfl
 |n+1,i,b=>by refine ay.a (by rw[<-eQ];exact ay.i2) λv=>?_;have:=ay.a8 (a:=a) n (i+1) (b.push v);grind
def ay.a5{a:Addr}{n:Nat}:ay P U (Array.map U.v) (Go.loadCells (a.pm U) n) (Go.loadCells a n):=by have:=ay.a8 (P:=P) (U:=U) (a:=a) n 0 #[];simpa[Go.loadCells]using this
def ay.w{a:Addr}:∀(b:Ϣ)(i:Nat),ay P U (λx=>x) (Go.storeCells (a.pm U) (b.map U.v) i) (Go.storeCells a b i)
 |[],i=>ay.c rfl
 |v::b,i=>ay.a (by rw[<-eQ];exact ay.l3) λ_=>ay.w b _
def ay.d1{t:ϟ}{a:Addr}:ay P U U.v (Go.loadVar t (a.pm U)) (Go.loadVar t a):=by refine ay.a ay.i0 λb=>?_;refine ay.i yK ?_ ay.i2;exact ay.a ay.k λn=>ay.a ay.a5 λc=>ay.c ς
def ay.e6{t:ϟ}{a:Addr}{v:Θ}:ay P U (λx=>x) (Go.storeVar t (a.pm U) (v.pm U)) (Go.storeVar t a v):=by refine ay.a ay.k λn=>?_;have h:=ay.w (P:=P) (U:=U) (a:=a) v.cells.toList 0;simp only[ed,I1,yV];exact ay.n yK (ay.d _) h
theorem ay.b0{t:ϟ}{cs:ϡ}:ay P U (Addr.pm U) (Go.newRow t (cs.map U.v)) (Go.newRow t cs):=by unfold Go.newRow;exact ay.a (ay.c5 (o:=.cells cs t)) λr=>ay.c rfl
def ay.f1{t:ϟ}{v:Θ}:ay P U (Addr.pm U) (Go.newVar t (v.pm U)) (Go.newVar t v):=by unfold Go.newVar;grind[ed,b0]
def ay.g7{t:ϟ}:ay P U (λx=>x) (Go.elemOf t) (Go.elemOf t):=
 ay.a ay.e λd=>by cases d<;>rfl
def ay.a6{t:ϟ}{c:ϡ}{a:Nat}:ay P U U.v (Go.part t (c.map U.v) a) (Go.part t c a):=by
 refine ay.a ay.i0 λb=>ay.i yK (ay.a ay.k λn=>ay.c ς) ?_;rw[yw];cases c[a]? with
 |none=>exact ay.d _
 |some v=>exact ay.c rfl
def ay.b5{v:Θ}:ay P U (λx=>x) (Go.asIntOf (v.pm U)) (Go.asIntOf v):=by
 cases v<;>simp[Go.asIntOf]<;>first|rfl|skip
 rename_i a
 cases a<;>rfl
def ay.b2{v:Θ}:ay P U (λx=>x) (Go.asInt (v.pm U)) (Go.asInt v):=ay.a ay.b5 λ_=>rfl
def ay.c3{v:Θ}:ay P U (λx=>x) (Go.asBool (v.pm U)) (Go.asBool v):=by cases v<;>simp[Go.asBool]<;>rfl
def ay.g9{r:Nat}:ay P U (Option.map λx=>(x.1.pm U,U.h x.2)) (Go.viewAt (U.f r)) (Go.viewAt r):=by refine ay.a ay.a0 λs=>ay.i yK (ay.c rfl) ?_;exact ay.a ay.m λo=>by cases o<;>first|rfl|exact Eqv.p rfl
def ay.e3{r:Nat}:ay P U (Option.map λx=>(x.1.pm U,x.2)) (Go.numberAt (U.f r)) (Go.numberAt r):=by refine ay.a ay.a0 λs=>ay.i yK (ay.c rfl) ?_;exact ay.a ay.m λo=>by cases o<;>first|rfl|exact Eqv.p rfl
def ay.h{a:Addr}:ay P U (λx=>(x.1.pm U,x.2)) (Go.behindNumber (a.pm U)) (Go.behindNumber a):=by unfold Go.behindNumber;exact ay.a ay.e3 λo=>ay.c (by cases o<;>rfl)
def ay.h0{a:Addr}{l:Bool}:ay P U U.v (Go.asNumber (a.pm U) l) (Go.asNumber a l):=by unfold Go.asNumber;exact ay.a (ay.c5 (o:=.number a l)) λr=>ay.c ς
def ay.f2{a:Addr}:ay P U (λx=>x) (Go.noView (a.pm U)) (Go.noView a):=by unfold Go.noView;exact ay.a ay.g9 λo=>by cases o<;>rfl
def ay.a9{a:Addr}:ay P U (λx=>x) (Go.markStringish (a.pm U)) (Go.markStringish a):=by unfold Go.markStringish;exact ay.a ay.a0 λs=>by cases s<;>rfl
def ay.d7{a:Addr}:ay P U (λx=>x) (Go.stringish (a.pm U)) (Go.stringish a):=by refine ay.a ay.c4 λb=>ay.i yK (ay.c rfl) ?_;exact ay.a ay.a0 λs=>by cases s<;>rfl
def ay.h2{a b:Addr}:ay P U (λx=>x) (Go.mayBeOne (a.pm U) (b.pm U)) (Go.mayBeOne a b):=by refine ay.a ay.d7 λx=>ay.a ay.d7 λy=>?_;have d:∀c:Addr,ay P U (λx=>x) _ (do Pure.pure ((<-Go.shape c.block) matches some (_,0)):Sem Bool):=λc=>ay.a ay.a0 λ_=>ay.c rfl;exact ay.a (d a) λu=>ay.a (d b) λv=>ay.c rfl
def ay.e5{a b:Addr}:ay P U (λx=>x) (Go.sameAddr (a.pm U) (b.pm U)) (Go.sameAddr a b):=by apply ay.i ς (ay.c ς);refine ay.a ay.c4 λx=>ay.a ay.c4 λy=>ay.n yK (ay.b _) ?_;refine ay.a ay.f2 λ_=>ay.a ay.f2 λ_=>ay.a ay.h2 λb=>ay.i yK ?_ (ay.c rfl);exact ay.a ay.l λ_=>ay.c rfl
def ay.f3{a b:ϣ}:ay P U (λx=>x) (Go.samePointer (a.map (Addr.pm U)) (b.map (Addr.pm U))) (Go.samePointer a b):=by cases a<;>cases b<;>first|exact ay.e5|exact ay.c rfl
def ay.a4{a:Addr}:ay P U (λx=>x) (Go.byteOf (a.pm U)) (Go.byteOf a):=by
 unfold Go.byteOf;rw[iR];cases a.spot with
 |some s=>exact ay.c rfl
 |none=>
  refine ay.prog (ay.a ay.f2 λ_=>ay.a ay.a0 λo=>?_);rcases o with _|x;exact ay.d _;apply ay.i yK (ay.c rfl);simp only[eR];cases byteOfCell P _ x.1 _ with
  |none=>exact ay.d _
  |some b=>exact ay.c rfl
def ay.j5{a:Addr}{c b:Nat}:ay P U (Addr.pm U) (Go.partAt (a.pm U) c b) (Go.partAt a c b):=by refine ay.a ay.a4 λn=>ay.a (ay.a4 (a:={block:=a.block,off:=a.off+c})) λm=>ay.c ?_;split<;>rfl
def ay.f7{a:Addr}{f:Field}:ay P U (Addr.pm U) (Go.fieldPlace (a.pm U) f) (Go.fieldPlace a f):=by unfold Go.fieldPlace;exact ay.a ay.k λn=>ay.i yK ay.j5 (ay.c ς)
def ay.f4{a:Addr}{u:ϟ}{n:Nat}:ay P U (λx=>x) (Go.variablesAt (a.pm U) u n) (Go.variablesAt a u n):=by unfold Go.variablesAt;exact ay.prog (ay.a ay.a0 λo=>by cases o<;>exact ay.c rfl)
end
section
variable {P:ϛ}{U:Perm}(S:dE P U){M K:Type}
include S
omit S in
def ay.d4{h:M->K}(e:RuntimeError)(b:∀i c a m,e≠.typeAssertion i c a m):ay P U h (Go.runtimePanic e:Sem K) (Go.runtimePanic e:Sem M):=by
 apply ay.prog;cases e with
 |bounds x y s c=>exact ay.a2 _ _
 |error m=>exact ay.a2 _ _
 |plain m=>exact ay.a2 _ _
 |nilDeref=>exact ay.a2 _ _
 |typeAssertion i c a m=>exact absurd rfl (b i c a m)
 |panicNil=>
  refine ay.a ay.g7 λt=>?_;have:=ay.f1 (P:=P) (U:=U) (t:=t) (v:=.agg #[]);exact ay.a this λr=>ay.a2 _ _
 |unhashable t=>exact ay.a2 _ _
theorem ay.f{h:M->K}(e:RuntimeError)(b:∀i c a m,e≠.typeAssertion i c a m:=by intro _ _ _ _ h;cases h):ay P U h (Go.runtimePanic e:Sem K) (Go.runtimePanic e:Sem M):=
 have _:=S;ay.d4 e b
def ay.r{h:M->K}{k:IntKind}{x y:Int}{c:BoundsCode}:ay P U h (Go.boundsPanic k x y c:Sem K) (Go.boundsPanic k x y c:Sem M):=by refine ay.i yK (ay.a ?_ λ_=>ay.f S _) (ay.a (ay.c rfl) λ_=>ay.f S _);exact ay.a ay.l λ_=>ay.c rfl
def ay.g6{v:Θ}:ay P U (Addr.pm U) (Go.asAddr (v.pm U)) (Go.asAddr v):=by
 cases v with
 |pointer a=>
  rcases a with _|a;simp only[bh,Option.map_none,Go.asAddr];grind[f];exact ay.c rfl
 |_=>simp<;>rfl
end
section
variable {P:ϛ}{U:Perm}{M K γ δ:Type}
def oQ(s:Sem M)(f:M->Sem K)(g:K->Sem γ):(s.bind f).bind g=s.bind λa=>(f a).bind g:=by
 induction s with
 |pure a=>rfl
 |halt h=>rfl
 |store m a v k b=>simp only[Sem.bind,b]
 |freeze a n k b=>simp only[Sem.bind,b]
 |setObj r o k b=>simp only[Sem.bind,b]
 |mark m k b=>simp only[Sem.bind,b]
 |_=>simp only[Sem.bind];congr 1;funext x;rename_i b;exact b x
def qw(s:Sem M):s.bind Sem.pure=s:=by
 induction s with
 |pure a=>rfl
 |halt h=>rfl
 |store m a v k b=>simp only[Sem.bind,b]
 |freeze a n k b=>simp only[Sem.bind,b]
 |setObj r o k b=>simp only[Sem.bind,b]
 |mark m k b=>simp only[Sem.bind,b]
 |_=>simp only[Sem.bind];congr 1;funext x;rename_i b;exact b x
theorem sH:LawfulMonad Sem:=LawfulMonad.mk' Sem (λx=>qw x) (λ_ _=>rfl) λx f g=>oQ x f g
def ay.j7{b:Type}{h:M->K}{f:b->Sem M}{c:b->Sem K}(d:∀i,ay P U h (c i) (f i)):∀l:List b,ay P U (List.map h) (l.mapM c) (l.mapM f)
 |[]=>ay.c rfl
 |x::l=>by
   haveI:=sH
   rw[List.mapM_cons,List.mapM_cons];exact ay.a (d x) λa=>ay.a (ay.j7 d l) λe=>ay.c rfl
def ay.a3{v:Θ}:ay P U (Addr.pm U) (Instr.sureAddr (v.pm U)) (Instr.sureAddr v):=by
 cases v with
 |pointer a=>cases a<;>first|exact ay.d _|exact ay.c rfl
 |_=>exact ay.d _
def ay.j3{t:ϟ}{v:Θ}:ay P U U.v (Instr.loadAt t (v.pm U)) (Instr.loadAt t v):=ay.a ay.a3 λ_=>ay.d1
def ay.i7{t:ϟ}{v x:Θ}:ay P U (λx=>x) (Instr.storeAt t (v.pm U) (x.pm U)) (Instr.storeAt t v x):=ay.a ay.a3 λ_=>ay.e6
def ay.h8{s:ϟ}{v:Θ}{f:Nat}:ay P U U.v (Instr.fieldAt s (v.pm U) f) (Instr.fieldAt s v f):=by
 refine ay.a ay.e λd=>?_;cases d with
 |struct c=>
  dsimp only;cases c[f]? with
  |none=>exact ay.d _
  |some e=>exact ay.a ay.a3 λa=>ay.a ay.f7 λb=>ay.c ς
 |_=>exact ay.d _
def ay.m2{t:ϟ}{v:Θ}:ay P U U.v (Instr.box t (v.pm U)) (Instr.box t v):=ay.a ay.f1 λa=>ay.c ς
def oy(b:Nat->Option (Nat×Nat)):∀(l:List (Nat×Θ))(a:ϡ),
 Instr.fill b (a.map U.v) (l.map λx=>(x.1,x.2.pm U))=(Instr.fill b a l).map (Array.map U.v)
 |[],a=>by simp[Instr.fill]
 |(i,v)::l,a=>by
   simp only[yN,Instr.fill];cases b i with
   |none=>rfl
   |some x=>
    obtain⟨e,f⟩:=x;simp only[ed,I1];split;rfl;rw[<-oy _ l];rw[<-Array.foldl_toList,<-Array.foldl_toList,Array.toList_zipIdx,Array.toList_zipIdx,yV,List.zipIdx_map,List.foldl_map];have g:∀(d:List (Θ×Nat))(c:Array _),d.foldl (λc x=>c.setIfInBounds (e+x.2) (x.1.pm U)) (c.map U.v)=(d.foldl (λc x=>c.setIfInBounds (e+x.2) x.1) c).map U.v:=by
     intro d;induction d with
     |nil=>simp
     |cons x d h=>
      intro c;simp;rw[<-h];simp
    simp_all
def ay.i4{b:Type}{h:M->K}{f:b->Sem M}{f':b->Sem K}(c:∀i,ay P U h (f' i) (f i))(a:Array b):ay P U (Array.map h) (a.mapM f') (a.mapM f):=by
 haveI:=sH
 rw[Array.mapM_eq_mapM_toList,Array.mapM_eq_mapM_toList];exact ay.a (ay.j7 c _) λl=>ay.c (Fj ..).symm
theorem Dh(a:ϡ)(i:Nat):(a.map U.v)[i]! =(a[i]!).pm U:=by rw[getElem!_def,getElem!_def,yw];cases a[i]? <;>simp[default,instInhabitedValue.default]
def zQ(a:ϡ)(n:Nat):(Array.range n).map ((a.map U.v)[· %(a.map U.v).size]!)=((Array.range n).map (a[· %a.size]!)).map U.v:=by grind[Array.map_map,Dh]
def ay.j(S:dE P U){x:Θ}{y:Nat}{c:BoundsCode}:ay P U (λx=>x) (Instr.sliceBound (x.pm U) y c) (Instr.sliceBound x y c):=by unfold Instr.sliceBound;exact ay.a ay.b5 λk=>ay.i yK (ay.c rfl) (ay.r S)
def ay.x(S:dE P U){b:Bool}{a c:Nat}{e d mx:Option Θ}:ay P U (λx=>x) (Instr.sliceBounds b a c (e.map U.v) (d.map U.v) (mx.map U.v)) (Instr.sliceBounds b a c e d mx):=by
 cases mx<;>cases d<;>cases e<;>dsimp only[Option.map]<;>
 first
 |exact ay.a (ay.c rfl) λm=>ay.a (ay.c rfl) λh=>ay.a (ay.c rfl) λl=>ay.c rfl
 |exact ay.a (ay.c rfl) λm=>ay.a (ay.c rfl) λh=>ay.a (ay.j S) λl=>ay.c rfl
 |exact ay.a (hα:=λx=>x) (ay.c rfl) λm=>ay.a (ay.j S) λh=>ay.a (hα:=λx=>x) (ay.c rfl) λl=>ay.c rfl
 |exact ay.a (hα:=λx=>x) (ay.c rfl) λm=>ay.a (ay.j S) λh=>ay.a (ay.j S) λl=>ay.c rfl
 |exact ay.a (ay.j S) λm=>ay.a (hα:=λx=>x) (ay.d _) λh=>ay.a (hα:=λx=>x) (ay.c rfl) λl=>ay.c rfl
 |exact ay.a (ay.j S) λm=>ay.a (hα:=λx=>x) (ay.d _) λh=>ay.a (ay.j S) λl=>ay.c rfl
 |exact ay.a (ay.j S) λm=>ay.a (ay.j S) λh=>ay.a (hα:=λx=>x) (ay.c rfl) λl=>ay.c rfl
 |exact ay.a (ay.j S) λm=>ay.a (ay.j S) λh=>ay.a (ay.j S) λl=>ay.c rfl
end
section
variable {P:ϛ}{U:Perm}(S:dE P U){M K:Type}
include S
def ay.k0{t:ϟ}{b:Bool}{old:Θ}:ay P U U.v (Instr.alloc t b (old.pm U)) (Instr.alloc t b old):=by
 refine ay.a (ay.p S) λz=>?_;have c:ay P U U.v (do Pure.pure (.pointer (some (<-Go.newVar t (z.pm U)))):Sem _) (do Pure.pure (.pointer (some (<-Go.newVar t z))):Sem _):=ay.a ay.f1 λa=>ay.c ς;cases b with
 |true=>exact c
 |false=>
  cases old with
  |pointer a=>
   rcases a with _|a;exact c;exact ay.a ay.e6 λ_=>ay.c rfl
  |_=>simp<;>exact c
def ay.k7{t:ϟ}{b:Array (Nat×Θ)}:ay P U U.v (Instr.build t (b.map λx=>(x.1,x.2.pm U))) (Instr.build t b):=by
 refine ay.a (ay.p S) λz=>ay.a ay.e λd=>?_;simp;cases d with
 |struct c=>
  refine ay.a (hα:=λx=>x) ?_ λg=>?_;have:=ay.i4 (P:=P) (U:=U) (h:=λx=>x) (f':=λf:Field=>do Pure.pure (f.offset,<-Go.sizeOf f.type)) (λf=>ay.a ay.k λn=>ay.c rfl) c;rwa [(by grind:(Array.map λx:Nat×Nat=>x)=λx=>x)]at this;rw[oy];cases Instr.fill (λx=>g[x]?) _ _ with
  |none=>exact ay.d _
  |some j=>exact ay.c ς
 |array n e=>
  refine ay.a ay.k λh=>?_;rw[oy];cases Instr.fill (λi=>some _) _ _ with
  |none=>exact ay.d _
  |some j=>exact ay.c ς
 |_=>exact ay.d _
def ay.f6{t:ϟ}{e:Nat}{c:Array (Nat×Θ)}:ay P U U.v (Instr.buildSlice t e (c.map λx=>(x.1,x.2.pm U))) (Instr.buildSlice t e c):=by
 refine ay.a ay.e λd=>?_;cases d with
 |slice h=>
  refine ay.a ay.k λb=>ay.n yK (ay.b _) ?_;have j:∀f:Array _,ay P U U.v
   (match Instr.fill (λi=>some (i*b,b)) ((Array.range (e*b)).map ((f.map U.v)[· %(f.map U.v).size]!)) (c.map λx=>(x.1,x.2.pm U)).toList with
    |some g=>(do Pure.pure (.slice (some (<-Go.newRow h g)) e e):Sem _)
    |_=>Go.stuck "buildSlice: a part of the wrong size")
   (match Instr.fill (λi=>some (i*b,b)) ((Array.range (e*b)).map (f[· %f.size]!)) c.toList with
    |some g=>(do Pure.pure (.slice (some (<-Go.newRow h g)) e e):Sem _)
    |_=>Go.stuck "buildSlice: a part of the wrong size"):=by
   intro f;rw[zQ,yV,oy];cases Instr.fill (λi=>some _) _ _ with
   |none=>exact ay.d _
   |some k=>exact ay.a ay.b0 λa=>ay.c ς
  refine ay.i yK (ay.a (ay.c ς) λz=>j z) ?_;exact ay.a (ay.p S) λz=>ay.a (ay.c ς) λz=>j z
 |_=>exact ay.d _
def ay.g4{t:ϟ}{l c:Θ}:ay P U U.v (Instr.makeSlice t (l.pm U) (c.pm U)) (Instr.makeSlice t l c):=by
 refine ay.a ay.e λd=>?_;cases d with
 |slice f=>
  refine ay.a ay.b2 λp=>ay.a ay.b2 λo=>ay.a ay.o λm=>?_;have k:∀e:Array _,∀n i h:Nat,ay P U U.v
   (do let a<-Go.newRow f ((Array.range n).map ((e.map U.v)[· %(e.map U.v).size]!));Pure.pure (.slice (some a) i h):Sem _)
   (do let a<-Go.newRow f ((Array.range n).map (e[· %e.size]!));Pure.pure (.slice (some a) i h):Sem _):=by
   intro e n i h;rw[zQ];exact ay.a ay.b0 λa=>ay.c ς
  have j:∀i h b:Nat,ay P U U.v
   (do Go.askRoom b;let g<-Go.sizeOf f;if h*g=0 then (do let e<-Pure.pure #[];let a<-Go.newRow f ((Array.range (h*g)).map (e[· %e.size]!));Pure.pure (.slice (some a) i h)) else (do let z<-Go.zeroValue f;let e<-Pure.pure z.cells;let a<-Go.newRow f ((Array.range (h*g)).map (e[· %e.size]!));Pure.pure (.slice (some a) i h)):Sem _)
   (do Go.askRoom b;let g<-Go.sizeOf f;if h*g=0 then (do let e<-Pure.pure #[];let a<-Go.newRow f ((Array.range (h*g)).map (e[· %e.size]!));Pure.pure (.slice (some a) i h)) else (do let z<-Go.zeroValue f;let e<-Pure.pure z.cells;let a<-Go.newRow f ((Array.range (h*g)).map (e[· %e.size]!));Pure.pure (.slice (some a) i h)):Sem _):=by
   intro i h b;refine ay.a ay.f5 λ_=>ay.a ay.k λg=>?_;refine ay.i yK (ay.a (ay.c ς) λz=>k z _ _ _) ?_;exact ay.a (ay.p S) λz=>ay.a (ay.c ς) λz=>k z _ _ _
  refine ay.i yK (ay.i yK ?_ (ay.i yK ?_ ?_)) (j _ _ _);exact ay.a (hα:=λx=>x) (ay.f S _) λ_=>j _ _ _;exact ay.a (hα:=λx=>x) (ay.f S _) λ_=>j _ _ _;exact ay.a ay.l λ_=>ay.a (hα:=λx=>x) (ay.f S _) λ_=>j _ _ _
 |_=>exact ay.d _
def ay.h9{t:ϟ}{x j:Θ}:ay P U U.v (Instr.indexAt t (x.pm U) (j.pm U)) (Instr.indexAt t x j):=by
 refine ay.a ay.b5 λm=>?_;let⟨k,i⟩:=m;refine ay.a ay.e λd=>?_;have h:∀(e:ϣ)(b:Nat)(c:ϟ),ay P U U.v
  (do let d ←Go.underlying t;let f:=decide (b≤1)&&(match d with|.array .. =>true|_=>false);(match e.map (Addr.pm U)with|some a=>if 0≤i∧i<b then (do Pure.pure (.pointer (some (a.add (i.toNat*(←Go.sizeOf c)))))) else if f=true then Go.unsupported (.noEntry "op/indexAddr.an index out of range at an array of length 0 or 1 (ledger 616)") else Go.boundsPanic k i b .index|none=>Go.boundsPanic k i 0 .index):Sem _)
  (do let d ←Go.underlying t;let f:=decide (b≤1)&&(match d with|.array .. =>true|_=>false);(match e with|some a=>if 0≤i∧i<b then (do Pure.pure (.pointer (some (a.add (i.toNat*(←Go.sizeOf c)))))) else if f=true then Go.unsupported (.noEntry "op/indexAddr.an index out of range at an array of length 0 or 1 (ledger 616)") else Go.boundsPanic k i b .index|none=>Go.boundsPanic k i 0 .index):Sem _):=by
  intro e b c;refine ay.a ay.e λd=>?_;rcases e with _|a;exact ay.r S;exact ay.i yK (ay.a ay.k λn=>ay.c ς) (ay.i yK (ay.b _) (ay.r S))
 have g:ay P U U.v (do let __x ←(Go.stuck "indexAddr: an array's address or a slice expected" :Sem (Option Addr×Nat×TypeId));Go.stuck "" :Sem Value) (do let __x ←(Go.stuck "indexAddr: an array's address or a slice expected" :Sem (Option Addr×Nat×TypeId));Go.stuck "" :Sem Value):=rfl;cases d with
 |array b c=>exact ay.a ay.a3 λa=>ay.a (hα:=λx=>(x.1.map (Addr.pm U),x.2)) (ay.c rfl) λy=>h y.1 _ _
 |slice c=>
  cases x with
  |slice e b l=>
   exact ay.a (hα:=λx=>(x.1.map (Addr.pm U),x.2)) (ay.c rfl) λy=>h y.1 _ _
  |_=>simp<;>exact g
 |_=>cases x<;>exact g
end
section
variable {P:ϛ}{U:Perm}(S:dE P U){M K:Type}
def Dj{c:Prop}[Decidable c]{a b:ϣ}:(if c then a else b).map (Addr.pm U)=if c then a.map (Addr.pm U) else b.map (Addr.pm U):=ν
include S
def ay.l2{t:ϟ}{x:Θ}{e f c:Option Θ}:ay P U U.v (Instr.slice t (x.pm U) (e.map U.v) (f.map U.v) (c.map U.v)) (Instr.slice t x e f c):=by
 refine ay.a ay.e λd=>?_;cases d with
 |string=>
  cases x with
  |string s=>
   apply ay.n ς (ay.d _);exact ay.a (ay.x S (mx:=none)) λy=>ay.c ς
  |_=>exact ay.d _
 |slice b=>
  cases x with
  |slice a i g=>
   refine ay.a (ay.x S) λy=>?_;refine ay.a ay.k λn=>ay.c ?_;simp only[jA,Dj];cases a<;>simp
  |_=>exact ay.d _
 |pointer h=>
  refine ay.a (ay.g6 S) λa=>ay.a ay.e λd=>?_;cases d with
  |array n b=>
   refine ay.a (ay.x S) λy=>?_;refine ay.a ay.k λk=>ay.c ?_;split<;>simp
  |_=>exact ay.d _
 |_=>cases x<;>exact ay.d _
def ay.i6{t:ϟ}{x:Θ}{e c b:Option Θ}:ay P U U.v (Instr.sliceAt t (x.pm U) (e.map U.v) (c.map U.v) (b.map U.v)) (Instr.sliceAt t x e c b):=by
 refine ay.a ay.e λd=>?_;cases d with
 |array n f=>
  refine ay.a ay.a3 λa=>ay.a (ay.x S) λy=>?_;refine ay.a ay.k λk=>ay.c ?_;split<;>simp
 |_=>exact ay.l2 S
def ay.l1{t:ϟ}{x c:Θ}:ay P U U.v (Instr.index t (x.pm U) (c.pm U)) (Instr.index t x c):=by
 refine ay.a ay.b5 λe=>?_;let⟨k,i⟩:=e;refine ay.a ay.e λd=>?_;cases d with
 |array f a=>
  cases x with
  |agg g=>
   simp;exact ay.i yK (ay.a ay.k λn=>ay.a6) (ay.r S)
  |_=>exact ay.d _
 |string=>
  cases x with
  |string s=>
   simp;cases (if 0<=i then s[i.toNat]? else none)with
   |none=>exact ay.r S
   |some b=>exact ay.c ς
  |_=>exact ay.d _
 |_=>cases x<;>exact ay.d _
omit S in
def ay.i3{t:ϟ}{r:Option Θ}:ay P U U.v (Instr.makeMap t (r.map U.v)) (Instr.makeMap t r):=by
 have a:ay P U U.v (do Pure.pure (.map (some (<-Go.newObj (.map #[] 0)))):Sem _) (do Pure.pure (.map (some (<-Go.newObj (.map #[] 0)))):Sem _):=
  ay.a (by have:=ay.c5 (P:=P) (U:=U) (o:=.map #[] 0);simpa[Obj.pm]using this) λr=>ay.c ς
 rcases r with _|v;exact a;refine ay.a ay.e λd=>?_;cases d with
 |map k e=>exact ay.a ay.b2 λ_=>a
 |_=>exact ay.d _
omit S in
def ay.h7{v:Θ}{i:Nat}:ay P U U.v (Instr.extract (v.pm U) i) (Instr.extract v i):=by
 cases v with
 |tuple a=>
  simp only[Dn,Instr.extract,yw];cases a[i]? with
  |none=>exact ay.d _
  |some v=>exact ay.c rfl
 |_=>exact ay.d _
omit S in
def ay.d2{t:ϟ}{v:Θ}:ay P U U.v (Instr.makeInterface t (v.pm U)) (Instr.makeInterface t v):=by unfold Instr.makeInterface;exact ay.a ay.e λd=>by cases d<;>first|exact ay.d _|exact ay.c ς
omit S in
def ay.i1{v:Θ}:ay P U (λx=>x) (Builtin.lenOf (v.pm U)) (Builtin.lenOf v):=by cases v<;>simp[Builtin.lenOf]<;>rfl
omit S in
def ay.a7{size n:Nat}{v:Θ}:ay P U (Array.map U.v) (Builtin.firstCells size n (v.pm U)) (Builtin.firstCells size n v):=by
 cases v with
 |slice a l c=>
  rcases a with _|a;exact ay.c ς;exact ay.a5
 |string s=>exact ay.c (by simp[Function.comp_def])
 |_=>exact ay.d _
omit S in
def iU(a:ϡ)(n:Nat):Builtin.zeroCells (a.map U.v) n=(Builtin.zeroCells a n).map U.v:=by unfold Builtin.zeroCells;grind[Array.map_map,Dh]
omit S in
def ay.c2{a:Addr}{n:Nat}:ay P U (λx=>x) (Builtin.holdsCells (a.pm U) n) (Builtin.holdsCells a n):=by unfold Builtin.holdsCells;exact ay.a ay.a0 λo=>by cases o<;>exact ay.c rfl
omit S in
def ay.h3{size sLen n:Nat}{base:ϣ}{x:Θ}:ay P U (λx=>x) (Builtin.mayShare size sLen n (base.map (Addr.pm U)) (x.pm U)) (Builtin.mayShare size sLen n base x):=by
 have d:ay P U (λx=>x) (match x.pm U with|.slice (some b) _ _=>(do Pure.pure (!(<-Builtin.holdsCells b (n*size))||(base.map (Addr.pm U)).any (·.block==b.block)):Sem Bool)|_=>Pure.pure false)
  (match x with|.slice (some b) _ _=>(do Pure.pure (!(<-Builtin.holdsCells b (n*size))||base.any (·.block==b.block)):Sem Bool)|_=>Pure.pure false):=by
  cases x with
  |slice a l c=>
   rcases a with _|b;exact ay.c rfl;refine ay.a ay.c2 λt=>ay.c ?_;cases base<;>simp
  |_=>exact ay.c rfl
 rcases base with _|a;exact ay.a (ay.c rfl) λt=>ay.i yK (ay.c rfl) d;refine ay.a ay.c2 λu=>?_;exact ay.a (by rw[<-eQ];exact ay.c4:ay P U (λx=>x) (Go.frozen ((a.pm U).add (sLen/2*size))) (Go.frozen (a.add (sLen/2*size)))) λv=>ay.a (ay.c rfl) λt=>ay.i yK (ay.c rfl) d
def ay.i8{A:Array ϟ}{C:ϟ}{o:ϡ}:ay P U U.v (Builtin.append_ A C (o.map U.v)) (Builtin.append_ A C o):=by
 unfold Builtin.append_;rw[yw,yw];cases A[0]? with
 |none=>exact ay.d _
 |some B=>
 cases o[0]? with
 |none=>exact ay.d _
 |some s=>
 cases o[1]? with
 |none=>exact ay.d _
 |some x=>
 refine ay.a ay.e λd=>?_;cases d with
 |slice j=>
  cases s with
  |slice f c g=>
   refine ay.a ay.k λh=>?_;have u:∀(e:Bool)(n:Nat),ay P U (Array.map U.v)
    (if (!e)=true then Builtin.firstCells h n (x.pm U) else if n*h=0 then Pure.pure #[] else (do Pure.pure (Builtin.zeroCells (<-Go.zeroValue j).cells n)):Sem (ϡ))
    (if (!e)=true then Builtin.firstCells h n x else if n*h=0 then Pure.pure #[] else (do Pure.pure (Builtin.zeroCells (<-Go.zeroValue j).cells n)):Sem (ϡ)):=λe n=>
    ay.i yK ay.a7 (ay.i yK (ay.c ς) (ay.a (ay.p S) λz=>ay.c (by rw[ed,iU])))
   have y:∀(e:Bool)(n:Nat),ay P U U.v
    (do let k<-Go.choose (.appendCap (c+n) g j);let i<-Go.typeInfo j;Go.askRoom (k*i.bytes);let q<-Builtin.firstCells h c (.slice (f.map (Addr.pm U)) c g)
        let l<-(if (!e)=true then Builtin.firstCells h n (x.pm U) else if n*h=0 then Pure.pure #[] else (do Pure.pure (Builtin.zeroCells (<-Go.zeroValue j).cells n)):Sem _)
        let z<-Go.zeroValue j;let r<-Go.newRow j (q++l++Builtin.zeroCells z.cells (k-(c+n)));Pure.pure (.slice (some r) (c+n) k):Sem _)
    (do let k<-Go.choose (.appendCap (c+n) g j);let i<-Go.typeInfo j;Go.askRoom (k*i.bytes);let q<-Builtin.firstCells h c (.slice f c g)
        let l<-(if (!e)=true then Builtin.firstCells h n x else if n*h=0 then Pure.pure #[] else (do Pure.pure (Builtin.zeroCells (<-Go.zeroValue j).cells n)):Sem _)
        let z<-Go.zeroValue j;let r<-Go.newRow j (q++l++Builtin.zeroCells z.cells (k-(c+n)));Pure.pure (.slice (some r) (c+n) k):Sem _):=by
    intro e n;refine ay.a ay.l λF=>ay.a ay.o λi=>ay.a ay.f5 λ_=>ay.a (ay.a7 (P:=P) (U:=U) (size:=h) (n:=c) (v:=.slice f c g)) λq=>ay.a (u e n) λl=>ay.a (ay.p S) λz=>?_;rw[ed,iU,<-IY,<-IY];exact ay.a ay.b0 λa=>ay.c ς
   have t:∀(l:ϡ)(n:Nat),ay P U U.v
    (match (generalizing:=false) f.map (Addr.pm U)with|some a=>(do Go.storeCells (a.add (c*h)) (l.map U.v).toList;Pure.pure (.slice (f.map (Addr.pm U)) (c+n) g))|_=>Pure.pure (.slice (f.map (Addr.pm U)) (c+n) g))
    (match (generalizing:=false) f with|some a=>(do Go.storeCells (a.add (c*h)) l.toList;Pure.pure (.slice f (c+n) g))|_=>Pure.pure (.slice f (c+n) g)):=by
    intro l n;rcases f with _|a;exact ay.c ς;simp;rw[<-eQ];exact ay.a (ay.w _ _) λ_=>ay.c ς
   have w:=λ(e:Bool)(n:Nat)=>
    ay.i (c:=c+n<=g) (c':=c+n<=g) yK
     (ay.a (f':=λl=>(match (generalizing:=false) f.map (Addr.pm U)with|some a=>(do Go.storeCells (a.add (c*h)) l.toList;Pure.pure (.slice (f.map (Addr.pm U)) (c+n) g))|_=>Pure.pure (.slice (f.map (Addr.pm U)) (c+n) g)))
      (f:=λl=>(match (generalizing:=false) f with|some a=>(do Go.storeCells (a.add (c*h)) l.toList;Pure.pure (.slice f (c+n) g))|_=>Pure.pure (.slice f (c+n) g))) (u e n) λl=>t l n)
     (ay.a (P:=P) (U:=U) (ay.o (t:=j)) λi=>
      ay.n (c:=((c+n:Nat):Int)>IntKind.i64.max∧(e=true∨i.bytes=0)) (c':=((c+n:Nat):Int)>IntKind.i64.max∧(e=true∨i.bytes=0)) yK (ay.f S (.error "growslice: len out of range"))
       (ay.a (P:=P) (U:=U) (ay.o (t:=j)) λi=>
        ay.n (c:=Builtin.nextslicecap (c+n) g*i.bytes>2^48) (c':=Builtin.nextslicecap (c+n) g*i.bytes>2^48) yK
         (ay.i (c:=e=true) (c':=e=true) yK (ay.f S (.error "growslice: len out of range"))
          (ay.a (ay.h3 (size:=h) (sLen:=c) (n:=n) (base:=f) (x:=x)) λb=>ay.n (c:=(!b)=true) (c':=(!b)=true) yK (ay.j8 mR) (ay.b (.resourceLimit "append: a slice or a string whose bytes no memory bears"))))
         (y e n)))
   have D:=λ(e:Bool)=>
    ay.i (c:=e=true) (c':=e=true) yK
     (ay.a (ay.b2 (v:=x)) λv=>ay.n (c:=IntKind.i64.wrap v<0) (c':=IntKind.i64.wrap v<0) yK (ay.f S (.error "makeslice: len out of range"))
      (ay.a (P:=P) (U:=U) (ay.o (t:=j)) λi=>ay.i (c:=IntKind.i64.wrap v*i.bytes>2^48) (c':=IntKind.i64.wrap v*i.bytes>2^48) yK
       (ay.a (ay.l (q:=.extern "append.ofMake.carriedOut" 2)) λm=>ay.a (hα:=λx:Unit=>x) (ay.f S (.error (if (m==1)=true then "makeslice: len out of range" else "growslice: len out of range"))) λ_=>ay.a (hα:=λx=>x) (ay.c (a:=(IntKind.i64.wrap v).toNat) rfl) λn=>w e n)
       (ay.a (hα:=λx=>x) (ay.c (a:=(IntKind.i64.wrap v).toNat) rfl) λn=>w e n)))
     (ay.a (ay.i1 (v:=x)) λn=>w e n)
   cases A[1]? with
   |none=>exact ay.a (hα:=λx=>x) (ay.c rfl) λz=>D z
   |some E=>exact ay.a ay.e λd=>ay.a (hα:=λx=>x) (ay.c rfl) λz=>D z
  |_=>exact ay.d _
 |_=>exact ay.d _
omit S in
def ay.copy{g:Array ϟ}{h:ϟ}{b:ϡ}:ay P U U.v (Builtin.copy_ g h (b.map U.v)) (Builtin.copy_ g h b):=by
 unfold Builtin.copy_;rw[yw,yw];cases g[0]? with
 |none=>exact ay.d _
 |some e=>
 cases b[0]? with
 |none=>exact ay.d _
 |some f=>
 cases b[1]? with
 |none=>exact ay.d _
 |some m=>
 refine ay.a ay.e λd=>?_;cases d with
 |slice i=>
  cases f with
  |slice c j l=>
   refine ay.a ay.i1 λn=>ay.a ay.k λk=>ay.a ay.a7 λo=>?_;rcases c with _|a;exact ay.c ς;simp;exact ay.a (ay.w _ _) λ_=>ay.c ς
  |_=>exact ay.d _
 |_=>exact ay.d _
end
section
variable {P:ϛ}{U:Perm}{M K:Type}
def ay.g8{ι C:Type}{f f':ι->C->Sem (ForInStep C)}(hf:∀i s,ay P U (λx=>x) (f' i s) (f i s))(l:List ι)(s:C):ay P U (λx=>x) (ForIn.forIn l s f') (ForIn.forIn l s f):=by
 induction l generalizing s with
 |nil=>simp only[List.forIn_nil];exact ay.c rfl
 |cons x l ih=>
  simp only[List.forIn_cons];refine ay.a (hf x s) λr=>?_;cases r with
  |done a=>exact ay.c rfl
  |yield a=>exact ih a
def ay.e9{ι C:Type}{f f':ι->C->Sem (ForInStep C)}(hf:∀i s,ay P U (λx=>x) (f' i s) (f i s))(l:Array ι)(s:C):ay P U (λx=>x) (ForIn.forIn l s f') (ForIn.forIn l s f):=by rw[<-Lh,<-Lh];exact ay.g8 hf _ _
def ay.f0{C:Type}{n:Nat}{f f':Nat->C->Sem (ForInStep C)}(hf:∀i s,ay P U (λx=>x) (f' i s) (f i s))(s:C):ay P U (λx=>x) (ForIn.forIn [:n] s f') (ForIn.forIn [:n] s f):=by rw[Std.Legacy.Range.forIn_eq_forIn_range',Std.Legacy.Range.forIn_eq_forIn_range'];exact ay.g8 hf _ _
def ay.g2{t:ϟ}:ay P U (λx=>x) (Go.typeStr t) (Go.typeStr t):=by unfold Go.typeStr;exact ay.a ay.o λi=>ay.i yK (ay.b _) (ay.c rfl)
end
section
variable {P:ϛ}{U:Perm}(S:dE P U){M K:Type}
include S
def zN(r:Nat):U.f r<P.globals.size↔r<P.globals.size:=S.a r
def ay.a1:∀(n:Nat)(t:ϟ)(x y:Θ),ay P U (λx=>x) (Op.equalIn n t (x.pm U) (y.pm U)) (Op.equalIn n t x y)
 |0,_,_,_=>ay.b _
 |n+1,t,x,y=>by
   have ih:=ay.a1 n;unfold Op.equalIn;refine ay.a ay.e λd=>?_;cases d with
   |bool=>cases x<;>cases y<;>simp<;>first|exact ay.c rfl|exact ay.d _
   |string=>cases x<;>cases y<;>simp<;>first|exact ay.c rfl|exact ay.d _
   |float=>cases x<;>cases y<;>simp<;>first|exact ay.i yK (ay.c rfl) (ay.d _)|exact ay.d _
   |complex=>cases x<;>cases y<;>simp<;>first|exact ay.i yK (ay.c rfl) (ay.d _)|exact ay.d _
   |slice e=>
    cases x with
    |slice a l c=>
     cases y with
     |slice b l' c'=>cases a<;>cases b<;>simp<;>first|exact ay.c rfl|exact ay.d _
     |_=>cases a<;>exact ay.d _
    |_=>cases y<;>exact ay.d _
   |map k e=>
    cases x with
    |map a=>
     cases y with
     |map b=>cases a<;>cases b<;>simp<;>first|exact ay.c rfl|exact ay.d _
     |_=>cases a<;>exact ay.d _
    |_=>cases y<;>exact ay.d _
   |func a b c=>cases x<;>cases y<;>simp<;>first|exact ay.c rfl|exact ay.d _
   |chan a b=>
    cases x with
    |chan a=>
     cases y with
     |chan b=>cases a<;>cases b<;>simp<;>exact ay.c ς
     |_=>exact ay.d _
    |_=>cases y<;>exact ay.d _
   |unsafePointer=>
    cases x with
    |pointer a=>
     cases y with
     |pointer b=>simp only[bh];exact ay.f3
     |_=>exact ay.d _
    |_=>cases y<;>exact ay.d _
   |pointer e=>
    cases x with
    |pointer a=>
     cases y with
     |pointer b=>
      rcases a with _|a
      .cases b<;>exact ay.c rfl
      rcases b with _|b;exact ay.c rfl;simp only[bh,yp];refine ay.a ay.k λn=>ay.i yK ay.e5 (ay.i ς (ay.c rfl) ?_);exact ay.a ay.l λ_=>ay.c rfl
     |_=>cases a<;>exact ay.d _
    |_=>cases y<;>exact ay.d _
   |interface ms=>
    cases x with
    |nilIface=>cases y<;>simp<;>first|exact ay.c rfl|exact ay.d _
    |iface tx vx=>
     cases y with
     |nilIface=>exact ay.c rfl
     |iface ty vy=>
      simp only[Dm];refine ay.i yK (ay.c rfl) (ay.a ay.o λi=>ay.i yK ?_ (ih _ _ _));refine ay.prog (ay.prog (ay.n yK (ay.b _) ?_));exact ay.a ay.g2 λs=>ay.f S _
     |_=>exact ay.d _
    |_=>cases y<;>exact ay.d _
   |struct fields=>
    cases x with
    |agg xs=>
     cases y with
     |agg ys=>
      simp only[kY];refine ay.prog (ay.n yK (ay.b _) ?_);refine ay.a (ay.e9 (λf s=>?_) _ _) λr=>?_;refine ay.i yK (ay.a ay.a6 λu=>ay.a ay.a6 λv=>ay.a (ih _ _ _) λb=>ay.i yK (ay.c rfl) (ay.c rfl)) (ay.c rfl);let⟨r,_⟩:=r;cases r<;>exact ay.c rfl
     |_=>exact ay.d _
    |_=>cases y<;>exact ay.d _
   |array len e=>
    cases x with
    |agg xs=>
     cases y with
     |agg ys=>
      simp only[kY];refine ay.a ay.k λk=>ay.a (ay.f0 (λf s=>?_) _) λr=>?_;exact ay.a ay.a6 λu=>ay.a ay.a6 λv=>ay.a (ih _ _ _) λb=>ay.i yK (ay.c rfl) (ay.c rfl);let⟨r,_⟩:=r;cases r<;>exact ay.c rfl
     |_=>exact ay.d _
    |_=>cases y<;>exact ay.d _
   |int k=>
    cases x with
    |int k1 a=>
     cases y with
     |int k2 b=>simp only[eF];exact ay.i yK (ay.c rfl) (ay.d _)
     |pointer b=>
      simp only[eF,bh];cases b<;>rcases a with (_|m)|m<;>first|exact ay.c rfl|exact ay.b _
     |_=>exact ay.d _
    |pointer a=>
     rcases a with _|a
     .cases y<;>exact ay.b _
     cases y with
     |int k2 b=>
      simp only[eF,bh,yp];rcases b with (_|m)|m<;>first|exact ay.c rfl|exact ay.b _
     |pointer b=>
      rcases b with _|b;exact ay.b _;simp only[bh,yp];refine ay.a ay.h λa=>ay.a ay.h λb=>ay.prog ?_;refine ay.i (by simp[zN S]) (ay.a ay.a4 λ_=>ay.a ay.a4 λ_=>ay.c rfl) ?_;refine ay.a ay.o λi=>?_;dsimp only;split;exact ay.i ς (ay.c rfl) (ay.b _);exact ay.b _
     |_=>exact ay.b _
    |_=>cases y<;>first|exact ay.d _|exact ay.b _
   |_=>exact ay.d _
end
section
variable {P:ϛ}{U:Perm}(S:dE P U){M K:Type}
def ay.b3:∀(n:Nat)(t:ϟ)(x y:Θ),ay P U (λx=>x) (Op.eqGuardIn n t (x.pm U) (y.pm U)) (Op.eqGuardIn n t x y)
 |0,_,_,_=>ay.b _
 |n+1,t,x,y=>by
   have c:=ay.b3 n;refine ay.a ay.e λd=>?_;cases d with
   |interface j=>cases x<;>cases y<;>exact ay.c rfl
   |struct a=>
    cases x with
    |agg h=>
     cases y with
     |agg g=>
      simp only[kY];refine ay.a (ay.e9 (λf s=>?_) _ _) λr=>?_;exact ay.i yK (ay.a ay.a6 λu=>ay.a ay.a6 λv=>ay.a (c _ _ _) λb=>ay.i yK (ay.c rfl) (ay.c rfl)) (ay.c rfl);let⟨r,_⟩:=r;cases r<;>exact ay.c rfl
     |_=>exact ay.c rfl
    |_=>cases y<;>exact ay.c rfl
   |array i e=>
    cases x with
    |agg h=>
     cases y with
     |agg g=>
      simp only[kY];refine ay.a ay.k λk=>ay.a (ay.f0 (λf s=>?_) _) λr=>?_;exact ay.a ay.a6 λu=>ay.a ay.a6 λv=>ay.a (c _ _ _) λb=>ay.i yK (ay.c rfl) (ay.c rfl);let⟨r,_⟩:=r;cases r<;>exact ay.c rfl
     |_=>exact ay.c rfl
    |_=>cases y<;>exact ay.c rfl
   |_=>exact ay.c rfl
def lO(k:Θ)(a:TypeDesc):∀(c:List MapEntry)(i:Nat),
 Instr.findNow a (k.pm U) (c.map (MapEntry.pm U)) i=(Instr.findNow a k c i).map (Option.map λx=>(x.1,x.2.pm U))
 |[],i=>by simp[Instr.findNow]
 |e::c,i=>by
   have d:Instr.sameNow a (k.pm U) (e.key.pm U)=Instr.sameNow a k e.key:=by cases a<;>cases k<;>cases f:e.key<;>simp[Instr.sameNow]
   simp only[yN,Instr.findNow,MapEntry.pm,d];cases Instr.sameNow a k _ with
   |none=>rfl
   |some b=>cases b with
     |true=>rfl
     |false=>exact lO k a c _
include S
def ay.c0(c:ϟ)(k:Θ):∀(a:List MapEntry)(i:Nat),
 ay P U (Option.map λx=>(x.1,x.2.pm U)) (Instr.findAsking c (k.pm U) (a.map (MapEntry.pm U)) i) (Instr.findAsking c k a i)
 |[],i=>ay.c rfl
 |e::a,i=>by exact ay.a (ay.a1 S _ _ _ _) λb=>ay.i yK (ay.c rfl) (ay.c0 c k a _)
def ay.b7(b:ϟ)(k:Θ)(a:List MapEntry):ay P U (Option.map λx=>(x.1,x.2.pm U)) (Instr.findKey b (k.pm U) (a.map (MapEntry.pm U))) (Instr.findKey b k a):=by
 refine ay.a ay.e λd=>?_;rw[lO];cases Instr.findNow d k a 0 with
 |none=>exact ay.c0 S b k a 0
 |some r=>exact ay.c rfl
def ay.y(b:Bool):∀(n:Nat)(t:ϟ)(x:Θ),ay P U (λx=>x) (Instr.checkKey b n t (x.pm U)) (Instr.checkKey b n t x)
 |0,_,_=>ay.b _
 |n+1,t,x=>by
   have c:=ay.y b n;refine ay.a ay.e λd=>?_;cases d with
   |interface l=>
    cases x with
    |iface d x=>
     refine ay.a ay.o λi=>ay.i yK ?_ (c _ _);have g:ay P U (λx=>x) (do let s ←Go.typeStr d;let r ←(Go.runtimePanic _:Sem Unit);(λ_:Unit=>Instr.checkKey b n d _) r) (do let s ←Go.typeStr d;let r ←(Go.runtimePanic (.error ("hash of unhashable type " ++s)):Sem Unit);(λ_:Unit=>Instr.checkKey b n d x) r):=
      ay.a ay.g2 λs=>ay.a (hα:=λx=>x) (ay.f S _) λ_=>c _ _
     exact ay.i yK (ay.a (hα:=λx=>x) (ay.f S _) λ_=>g) g
    |nilIface=>exact ay.c rfl
    |_=>exact ay.d _
   |array j e=>
    cases x with
    |agg h=>
     simp only[kY];refine ay.a (ay.f0 (λi s=>?_) _) λ_=>ay.c rfl;exact ay.a ay.k λk=>ay.a ay.a6 λv=>ay.a (c _ _) λ_=>ay.c rfl
    |_=>exact ay.d _
   |struct a=>
    cases x with
    |agg h=>
     simp only[kY];refine ay.a (ay.e9 (λf s=>?_) _ _) λ_=>ay.c rfl;exact ay.i yK (ay.a ay.a6 λv=>ay.a (c _ _) λ_=>ay.c rfl) (ay.c rfl)
    |_=>exact ay.d _
   |_=>exact ay.c rfl
def ay.j4{t:ϟ}{x i:Θ}{g:Bool}:ay P U U.v (Instr.lookup t (x.pm U) (i.pm U) g) (Instr.lookup t x i g):=by
 refine ay.a ay.e λd=>?_;cases d with
 |map f h=>
  have j:∀e:Array _,ay P U U.v
   (do Instr.checkKey (e.map (MapEntry.pm U)).isEmpty 10000 f (i.pm U)
       match<-Instr.findKey f (i.pm U) (e.map (MapEntry.pm U)).toList with
       |some (_,v)=>(do let y<-Pure.pure (v,true);(match y with|(v,a)=>Pure.pure (if g then .tuple #[v,.bool a] else v)))
       |none=>(do let z<-Go.zeroValue h;let y<-Pure.pure (z,false);(match y with|(v,a)=>Pure.pure (if g then .tuple #[v,.bool a] else v))):Sem _)
   (do Instr.checkKey e.isEmpty 10000 f i
       match<-Instr.findKey f i e.toList with
       |some (_,v)=>(do let y<-Pure.pure (v,true);(match y with|(v,a)=>Pure.pure (if g then .tuple #[v,.bool a] else v)))
       |none=>(do let z<-Go.zeroValue h;let y<-Pure.pure (z,false);(match y with|(v,a)=>Pure.pure (if g then .tuple #[v,.bool a] else v))):Sem _):=by
   intro e;rw[(by simp[Array.isEmpty]:(e.map (MapEntry.pm U)).isEmpty=e.isEmpty),yV];refine ay.a (ay.y S _ _ _ _) λ_=>ay.a (ay.b7 S _ _ _) λr=>?_;have k:∀(v:Θ)(b:Bool),ay P U U.v (do let y<-Pure.pure (v.pm U,b);(match y with|(v,a)=>Pure.pure (if g then .tuple #[v,.bool a] else v))) (do let y<-Pure.pure (v,b);(match y with|(v,a)=>Pure.pure (if g then .tuple #[v,.bool a] else v))):=
    λv b=>ay.a (hα:=λy=>(y.1.pm U,y.2)) (ay.c rfl) λy=>ay.c (by cases g<;>simp)
   rcases r with _|r;exact ay.a (ay.p S) λz=>k z _;exact k r.2 true
  cases x with
  |map r=>
   rcases r with _|r;exact ay.a (ay.c ς) λe=>j e;refine ay.a ay.m λo=>?_;cases o with
   |map e c=>exact ay.a (ay.c rfl) λe=>j e
   |_=>exact ay.d _
  |_=>exact ay.d _
 |_=>exact ay.d _
omit S in
def rm(a b:ϣ):(a.map (Addr.pm U)==b.map (Addr.pm U))=(a==b):=by cases a<;>cases b<;>simp
omit S in
def uF(a b:Option Nat):(a.map U.f==b.map U.f)=(a==b):=by cases a<;>cases b<;>simp
omit S in
def uN:∀(n:Nat)(x y:Θ),Instr.sameBits n (x.pm U) (y.pm U)=Instr.sameBits n x y:=by
 intro n;induction n with
 |zero=>
  intro x y;cases x<;>cases y<;>simp[Instr.sameBits,rm,uF]
 |succ n d=>
  intro x y;have f:∀b c:List _,((b.map U.v).zip (c.map U.v)).all (λx=>Instr.sameBits n x.1 x.2)=(b.zip c).all λx=>Instr.sameBits n x.1 x.2:=by
   intro b;induction b with
   |nil=>simp
   |cons a b e=>intro c;cases c<;>simp_all
  cases x<;>cases y<;>simp[Instr.sameBits,d,rm,uF,f]
omit S in
def ay.b1{o n:Θ}:ay P U U.v (Instr.keyThatStays (o.pm U) (n.pm U)) (Instr.keyThatStays o n):=by unfold Instr.keyThatStays;rw[uN];refine ay.i yK (ay.c rfl) (ay.a ay.l λc=>ay.c ?_);grind
omit S in
def oU(b:Array MapEntry)(i:Nat)(a:Θ):((((b.map (MapEntry.pm U))[i]?).map (·.key)).getD (a.pm U))=((((b[i]?).map (·.key)).getD a)).pm U:=by grind[MapEntry.pm]
omit S in
def mQ(b:Array MapEntry)(i:Nat){f a:MapEntry->MapEntry}(h:∀e,a (e.pm U)=(f e).pm U):(b.map (MapEntry.pm U)).modify i a=(b.modify i f).map (MapEntry.pm U):=by grind
def ay.g5{t:ϟ}{m k v:Θ}:ay P U (λx=>x) (Instr.mapUpdate t (m.pm U) (k.pm U) (v.pm U)) (Instr.mapUpdate t m k v):=by
 refine ay.a ay.e λd=>?_;cases d with
 |map f e=>
  cases m with
  |map r=>
   rcases r with _|r;exact ay.f S _;refine ay.a ay.m λo=>?_;cases o with
   |map c a=>
    simp only[Obj.pm,yV];refine ay.a (ay.y S _ _ _ _) λ_=>ay.a (ay.b7 S _ _ _) λr=>?_;rcases r with _|x;have:=ay.v (P:=P) (U:=U) (r:=r) (o:=.map (c.push {key:=k,val:=v,born:=a}) (a+1));simpa[Obj.pm,MapEntry.pm]using this;simp only[yp];rw[oU];refine ay.a ay.b1 λb=>?_;rw[mQ c x.1 (f:=λe=>{e with key:=b,val:=v}) λe=>by simp[MapEntry.pm]];exact ay.v (o:=.map (c.modify x.1 λe=>{e with key:=b,val:=v}) _)
   |_=>exact ay.d _
  |_=>exact ay.d _
 |_=>exact ay.d _
def ay.i9{c:Array ϟ}{g:ϟ}{a:ϡ}:ay P U U.v (Builtin.delete_ c g (a.map U.v)) (Builtin.delete_ c g a):=by
 unfold Builtin.delete_;rw[yw,yw];cases c[0]? with
 |none=>exact ay.d _
 |some l=>
 cases a[0]? with
 |none=>exact ay.d _
 |some m=>
 cases a[1]? with
 |none=>exact ay.d _
 |some k=>
 refine ay.a ay.e λd=>?_;have h:ay P U U.v (do let _ ←(Go.stuck _:Sem Unit);Pure.pure (.tuple #[]):Sem _) (do let _ ←(Go.stuck "delete: map expected" :Sem Unit);Pure.pure (.tuple #[]):Sem _):=rfl;cases d with
 |map n e=>
  cases m with
  |map r=>
   rcases r with _|r;exact ay.a (ay.y S _ _ _ _) λ_=>ay.c ς;refine ay.a ay.m λo=>?_;cases o with
   |map b f=>
    simp only[Obj.pm,yV];rw[(by simp[Array.isEmpty]:(b.map (MapEntry.pm U)).isEmpty=b.isEmpty)];refine ay.a (ay.y S _ _ _ _) λ_=>ay.a (ay.b7 S _ _ _) λr=>?_;rcases r with _|x;exact ay.a (ay.v (o:=.map b _)) λ_=>ay.c ς;have i:(b.map (MapEntry.pm U)).eraseIdxIfInBounds x.1=(b.eraseIdxIfInBounds x.1).map (MapEntry.pm U):=by unfold Array.eraseIdxIfInBounds;grind
    simp only[yp];rw[i];exact ay.a (ay.v (o:=.map _ _)) λ_=>ay.c ς
   |_=>exact h
  |_=>exact h
 |_=>exact ay.d _
end
variable {x:Θ}{args:ϡ}
section
variable{P:ϛ}{U:Perm}(S:dE P U){M K:Type}
def ay.range{t:ϟ}:ay P U U.v (Instr.range t (x.pm U)) (Instr.range t x):=by
 refine ay.a ay.e λd=>?_;have a:∀o:Obj,ay P U U.v (do let r ←Go.newObj _;Pure.pure (.pointer (some ⟨r,0,none⟩)):Sem _) (do let r ←Go.newObj o;Pure.pure (.pointer (some ⟨r,0,none⟩)):Sem _):=λo=>ay.a ay.c5 λr=>ay.c ς;have b:ay P U U.v (do let _ ←(Go.stuck _:Sem Obj);Go.stuck "" :Sem _) (do let _ ←(Go.stuck "Range: string or map expected" :Sem Obj);Go.stuck "" :Sem _):=rfl;cases d with
 |string=>
  cases x with
  |string s=>exact ay.a (ay.c rfl) λo=>a o
  |_=>exact b
 |map k e=>
  cases x with
  |map r=>
   rcases r with _|m;exact ay.a (ay.c rfl) λo=>a o;refine ay.a ay.m λo=>?_;cases o with
   |map f c=>exact ay.a (ay.c rfl) λo=>a o
   |_=>exact ay.a (ay.d _) λo=>a o
  |_=>exact b
 |_=>cases x<;>exact b
def mN(a:Array MapEntry)(p:Nat->Bool):(a.map (MapEntry.pm U)).filter (λe=>p e.born)=(a.filter λe=>p e.born).map (MapEntry.pm U):=by rw[Array.filter_map];rfl
def ay.m0{b:Bool}{t:ϟ}:ay P U U.v (Instr.next (x.pm U) b t) (Instr.next x b t):=by
 have f:ay P U U.v (Pure.pure (.tuple #[.bool false]):Sem _) (Pure.pure (.tuple #[.bool false]):Sem _):=ay.c ς;cases x with
 |pointer a=>
  rcases a with _|a;exact ay.d _;let⟨r,q,B⟩:=a;cases q with
  |succ n=>exact ay.d _
  |zero=>
   refine ay.a ay.m λo=>?_;cases o with
   |stringIter s y=>
    cases b;exact ay.d _;exact ay.i yK (ay.a (ay.v (o:=.stringIter s _)) λ_=>ay.c ς) f
   |mapIter m d h j=>
    cases b with
    |true=>cases m<;>exact ay.d _
    |false=>
     rcases m with _|m;exact f;refine ay.a ay.m λo=>?_;cases o with
     |map k u=>
      simp only[Obj.pm];have z:(k.map (MapEntry.pm U)).all (λe=>decide (e.born≥j))=k.all λe=>decide (e.born≥j):=by rw[Array.all_map];rfl
      rw[(by simp[Array.isEmpty]:(k.map (MapEntry.pm U)).isEmpty=k.isEmpty),z];apply ay.n yK (ay.b _);rw[mN k λb=>!h.contains b];generalize k.filter (λe=>!h.contains _)=g;rw[mN g λb=>decide (b<d),mN g λb=>decide _];generalize g.filter (λx=>decide (x.born<d))=c;generalize g.filter (λx=>decide (x.born≥d))=l;have v:(if (c.map (MapEntry.pm U)).isEmpty=true then #[none] else #[])++Array.map some (c.map (MapEntry.pm U)++l.map (MapEntry.pm U))=((if c.isEmpty=true then #[none] else #[])++Array.map some (c++l)).map (Option.map (MapEntry.pm U)):=by rw[(by simp[Array.isEmpty]:(c.map (MapEntry.pm U)).isEmpty=c.isEmpty)];cases c.isEmpty<;>simp[Function.comp_def]
      rw[v];generalize (if c.isEmpty=true then #[none] else #[])++Array.map some _=p;rw[I1];refine ay.a ay.l λi=>?_;rw[yw];cases p[i]? with
      |none=>exact ay.d _
      |some o=>
       rcases o with _|e;exact f;exact ay.a (ay.v (o:=.mapIter (some m) _ _ _)) λ_=>ay.c (by simp[MapEntry.pm])
     |_=>exact ay.d _
   |_=>cases b<;>exact ay.d _
 |_=>exact ay.d _
def ay.k9:ay P U U.v (Instr.entry (x.pm U)) (Instr.entry x):=by
 cases x with
 |pointer a=>
  rcases a with _|a;exact ay.d _;let⟨r,f,k⟩:=a;cases f with
  |succ n=>exact ay.d _
  |zero=>
   refine ay.a ay.m λo=>?_;cases o with
   |mapIter m d c j=>
    rcases m with _|m;exact ay.d _;simp only[Obj.pm,yp];cases c.back? with
    |none=>exact ay.d _
    |some b=>
     refine ay.a ay.m λo=>?_;cases o with
     |map g h=>
      apply ay.n yK (ay.b _);have i:(g.map (MapEntry.pm U)).find? (λe=>e.born==b)=(g.find? λe=>e.born==b).map (MapEntry.pm U):=by rw[Array.find?_map];rfl
      rw[i];cases g.find? (λe=>e.born==b)with
      |none=>exact ay.b _
      |some e=>exact ay.c (by simp[MapEntry.pm])
     |_=>exact ay.d _
   |_=>exact ay.d _
 |_=>exact ay.d _
def ay.k8(S:dE P U){h:Array ϟ}{i:ϟ}:ay P U U.v (Builtin.clear_ h i (args.map U.v)) (Builtin.clear_ h i args):=by
 unfold Builtin.clear_;rw[yw];cases h[0]? with
 |none=>exact ay.d _
 |some t=>
 cases args[0]? with
 |none=>exact ay.d _
 |some x=>
 refine ay.a ay.e λd=>?_;have g:ay P U U.v (Pure.pure (.tuple #[]):Sem Value) (Pure.pure (.tuple #[]):Sem Value):=ay.c ς;have j:ay P U U.v (do let _ ←(Go.stuck "clear: map or slice expected" :Sem Unit);Pure.pure (.tuple #[]):Sem Value) (do let _ ←(Go.stuck "clear: map or slice expected" :Sem Unit);Pure.pure (.tuple #[]):Sem Value):=rfl;cases x with
 |map r=>
  rcases r with _|r
  .cases d<;>exact g
  have k:ay P U U.v (do match ←Go.getObj (U.f r)with|.map _ b=>(do let _ ←Go.setObj (U.f r) (.map #[] b);Pure.pure (.tuple #[]))|_=>(do let _ ←(Go.stuck "clear: map expected" :Sem Unit);Pure.pure (.tuple #[])):Sem _)
   (do match ←Go.getObj r with|.map _ b=>(do let _ ←Go.setObj r (.map #[] b);Pure.pure (.tuple #[]))|_=>(do let _ ←(Go.stuck "clear: map expected" :Sem Unit);Pure.pure (.tuple #[])):Sem Value):=by
   refine ay.a ay.m λo=>?_;cases o with
   |map l c=>exact ay.a (by have:=ay.v (P:=P) (U:=U) (r:=r) (o:=.map #[] c);simpa[Obj.pm]using this) λ_=>g
   |_=>rfl
  cases d<;>exact k
 |slice a n c=>
  rcases a with _|a
  .cases d<;>exact g
  cases n with
  |zero=>cases d<;>exact g
  |succ n=>
   cases d with
   |slice e=>
    refine ay.a (ay.p S) λz=>?_;rw[ed,iU,yV];exact ay.a (ay.w _ _) λ_=>g
   |_=>exact j
 |_=>cases d<;>exact j
def ay.m4{c:Array ϟ}{f:ϟ}:ay P U U.v (Builtin.len_ c f (args.map U.v)) (Builtin.len_ c f args):=by
 unfold Builtin.len_;rw[yw];cases c[0]? with
 |none=>exact ay.d _
 |some t=>
 cases args[0]? with
 |none=>exact ay.d _
 |some x=>
 refine ay.a ay.e λd=>?_;cases d with
 |string=>cases x<;>simp<;>first|exact ay.c ς|grind[d]
 |array n e=>exact ay.c ς
 |pointer g=>
  refine ay.a ay.e λd=>?_;cases d<;>first|exact ay.c ς|exact ay.d _
 |slice e=>cases x<;>simp<;>first|exact ay.c ς|grind[d]
 |map k e=>
  cases x with
  |map r=>
   rcases r with _|r;exact ay.c ς;exact ay.a ay.m λo=>by cases o<;>first|exact ay.c ς|exact ay.d _
  |_=>exact ay.d _
 |chan a b=>
  cases x with
  |chan r=>
   rcases r with _|r;exact ay.c ς;exact ay.a ay.m λo=>by cases o<;>first|exact ay.c ς|exact ay.d _
  |_=>exact ay.d _
 |_=>cases x<;>exact ay.d _
end
section
variable {P:ϛ}{U:Perm}{M K:Type}
def ay.e2{a:BinOp}{k:IntKind}{x y:Int}:ay P U U.v (Op.intArith a k x y) (Op.intArith a k x y):=by cases a<;>first|exact ay.c ς|exact ay.d _
def ay.g0{a:BinOp}{k:IntKind}{x y:Int}:ay P U U.v (Op.intBits a k x y) (Op.intBits a k x y):=by cases a<;>first|exact ay.c ς|exact ay.d _
def ay.j1{a:BinOp}{x y:Int}:ay P U U.v (Op.intCmp a x y) (Op.intCmp a x y):=by cases a<;>first|exact ay.c ς|exact ay.d _
def ay.c1{a:BinOp}{k:FloatKind}{x y:Nat}:ay P U U.v (Op.floatArith a k x y) (Op.floatArith a k x y):=by
 have b:∀r:Option Nat,ay P U U.v (match r with|some r=>Pure.pure (.float k r)|none=>(do Pure.pure (.float k (<-Go.choose (.nanBits k x y)))):Sem _) (match r with|some r=>Pure.pure (.float k r)|none=>(do Pure.pure (.float k (<-Go.choose (.nanBits k x y)))):Sem _):=by intro r;rcases r with _|r;exact ay.a ay.l λ_=>ay.c ς;exact ay.c ς
 cases a<;>first|exact ay.a (ay.c rfl) λr=>b r|exact ay.a (ay.d _) λr=>b r
def ay.e1{a:BinOp}{k:FloatKind}{x y:Nat}:ay P U U.v (Op.floatCmp a k x y) (Op.floatCmp a k x y):=by cases a<;>first|exact ay.c ς|exact ay.d _
def ay.u{s d:FloatKind}{x:Nat}:ay P U U.v (Conv.floatToFloat s x d) (Conv.floatToFloat s x d):=by apply ay.i yK (ay.c ς);split;exact ay.a ay.l λ_=>ay.c ς;exact ay.c ς;exact ay.i yK (ay.a ay.l λ_=>ay.c ς) (ay.c ς)
def ay.g{op:BinOp}{k:FloatKind}{x y:Nat}:ay P U (λx=>x) (Op.Complex.arith op k x y) (Op.Complex.arith op k x y):=
 ay.a ay.c1 λv=>by cases v<;>first|exact ay.c rfl|exact ay.d _
def ay.c8{op:BinOp}{k:FloatKind}{x y:Nat}:ay P U (λx=>x) (Op.Complex.cmp op k x y) (Op.Complex.cmp op k x y):=
 ay.a ay.e1 λ_=>ay.c3
def ay.q{s d:FloatKind}{x:Nat}:ay P U (λx=>x) (Op.Complex.conv s x d) (Op.Complex.conv s x d):=by unfold Op.Complex.conv;exact ay.i yK (ay.c rfl) (ay.a ay.u λv=>by cases v<;>first|exact ay.c rfl|exact ay.d _)
def ay.g1{a b c d:Nat}:ay P U (λx=>x) (Op.Complex.product a b c d) (Op.Complex.product a b c d):=
 ay.a ay.g λ_=>ay.a ay.g λ_=>ay.a ay.g λ_=>ay.a ay.g λ_=>ay.a ay.g λ_=>ay.a ay.g λ_=>ay.c rfl
def ay.c9{s a b c d:Nat}:ay P U (λx=>x) (Op.Complex.corrected s a b c d) (Op.Complex.corrected s a b c d):=
 ay.a ay.g λ_=>ay.a ay.g λ_=>ay.a ay.g λ_=>ay.a ay.g λ_=>ay.a ay.g λ_=>ay.a ay.g λ_=>ay.a ay.g λ_=>ay.a ay.g λ_=>ay.c rfl
def ay.e4{a b c d:Nat}:ay P U (λx=>x) (Op.Complex.quotient a b c d) (Op.Complex.quotient a b c d):=by
 refine ay.a ay.c8 λt=>?_;have f:∀e:Nat×Nat,ay P U (λx=>x) _ _:=λe=>ay.a (ay.c8 (op:=.eql) (k:=.f64) (x:=c) (y:=0)) λu=>ay.a (ay.c8 (op:=.eql) (k:=.f64) (x:=d) (y:=0)) λv=>
  ay.i (c':=(!(Op.Complex.isNaN e.1&&Op.Complex.isNaN e.2))=true) yK (ay.c (a:=e) rfl)
   (ay.i (c':=((u&&v)&&(!Op.Complex.isNaN a|| !Op.Complex.isNaN b))=true) yK
    (ay.a (ay.g (op:=.mul) (k:=.f64) (x:=Op.Complex.copysign Op.Complex.inf c) (y:=a)) λp=>ay.a (ay.g (op:=.mul) (k:=.f64) (x:=Op.Complex.copysign Op.Complex.inf c) (y:=b)) λq=>ay.c (a:=(p,q)) rfl)
    (ay.i (c':=((Op.Complex.isInf a||Op.Complex.isInf b)&&Op.Complex.isFinite c&&Op.Complex.isFinite d)=true) yK
     (ay.c9 (s:=Op.Complex.inf) (a:=Op.Complex.inf2one a) (b:=Op.Complex.inf2one b) (c:=c) (d:=d))
     (ay.i (c':=((Op.Complex.isInf c||Op.Complex.isInf d)&&Op.Complex.isFinite a&&Op.Complex.isFinite b)=true) yK
      (ay.c9 (s:=0) (a:=a) (b:=b) (c:=Op.Complex.inf2one c) (d:=Op.Complex.inf2one d)) (ay.c (a:=e) rfl))))
 refine ay.i yK ?_ ?_;exact ay.a ay.g λ_=>ay.a ay.g λ_=>ay.a ay.g λ_=>ay.a ay.g λ_=>ay.a ay.g λ_=>ay.a ay.g λ_=>ay.a ay.g λ_=>ay.a ay.g λ_=>ay.a ay.g λ_=>ay.a (ay.c rfl) λe=>f e;exact ay.a ay.g λ_=>ay.a ay.g λ_=>ay.a ay.g λ_=>ay.a ay.g λ_=>ay.a ay.g λ_=>ay.a ay.g λ_=>ay.a ay.g λ_=>ay.a ay.g λ_=>ay.a ay.g λ_=>ay.a (ay.c rfl) λe=>f e
def ay.b9{a:BinOp}{x y:ϝ}:ay P U U.v (Op.stringOp a x y) (Op.stringOp a x y):=by unfold Op.stringOp;cases a<;>first|exact ay.c ς|exact ay.d _|exact ay.i yK (ay.b _) (ay.c ς)
def ay.l4{c:UnOp}{x:Θ}:ay P U U.v (Op.unary c (x.pm U)) (Op.unary c x):=by
 cases x with
 |pointer a=>cases a<;>cases c<;>first|exact ay.b _|exact ay.d _
 |int k n=>simp only[eF];cases c<;>simp only[Op.unary]<;>first|exact ay.e2|exact ay.g0|grind[d]
 |float k n=>cases c<;>first|exact ay.c ς|exact ay.d _
 |complex k n m=>cases c<;>first|exact ay.c ς|exact ay.d _
 |bool b=>cases c<;>first|exact ay.c ς|exact ay.d _
 |_=>cases c<;>exact ay.d _
def ay.g3{e:BinOp}{k:FloatKind}{a b c d:Nat}:ay P U U.v (Op.complexOp e k a b c d) (Op.complexOp e k a b c d):=by
 cases e with
 |add=>exact ay.a ay.g λ_=>ay.a ay.g λ_=>ay.c ς
 |sub=>exact ay.a ay.g λ_=>ay.a ay.g λ_=>ay.c ς
 |mul=>unfold Op.complexOp;exact ay.a ay.q λ_=>ay.a ay.q λ_=>ay.a ay.q λ_=>ay.a ay.q λ_=>ay.i yK (ay.a ay.g1 λ_=>ay.a ay.q λ_=>ay.a ay.q λ_=>ay.c (iT ..).symm) (ay.a ay.e4 λ_=>ay.a ay.q λ_=>ay.a ay.q λ_=>ay.c (iT ..).symm)
 |quo=>unfold Op.complexOp;exact ay.a ay.q λ_=>ay.a ay.q λ_=>ay.a ay.q λ_=>ay.a ay.q λ_=>ay.i yK (ay.a ay.g1 λ_=>ay.a ay.q λ_=>ay.a ay.q λ_=>ay.c (iT ..).symm) (ay.a ay.e4 λ_=>ay.a ay.q λ_=>ay.a ay.q λ_=>ay.c (iT ..).symm)
 |eql=>exact ay.a ay.c8 λ_=>ay.a ay.c8 λ_=>ay.c ς
 |neq=>exact ay.a ay.c8 λ_=>ay.a ay.c8 λ_=>ay.c ς
 |_=>exact ay.d _
end
section
variable {P:ϛ}{U:Perm}(S:dE P U){M K:Type}
include S
def ay.j2{a:BinOp}{k:IntKind}{x y:Int}:ay P U U.v (Op.intDiv a k x y) (Op.intDiv a k x y):=by apply ay.i yK (ay.f S _);cases a<;>first|exact ay.c ς|exact ay.d _
def ay.i5{a:BinOp}{k b:IntKind}{x y:Int}:ay P U U.v (Op.shift a k x b y) (Op.shift a k x b y):=by apply ay.i yK (ay.f S _);cases a<;>first|exact ay.c ς|exact ay.d _
omit S in
def ay.t{ts:Array ϟ}{t:ϟ}{x y:Θ}:ay P U U.v (Builtin.unsafeAdd_ ts t #[x.pm U,y.pm U]) (Builtin.unsafeAdd_ ts t #[x,y]):=by
 cases x with
 |pointer a=>
  refine ay.a ay.b2 λn=>?_;have c:ay P U U.v
   (match (generalizing:=false) a.map (Addr.pm U)with|some a=>(do match ←Go.shape a.block with|some (e,b)=>(do let p ←program;match cellAtBytes p p.depth e (b/p.cellsOf e) a.off n with|some off=>Pure.pure (.pointer (some {a with off}))|none=>Go.unsupported (.unsafePointer "Add"))|_=>Go.unsupported (.unsafePointer "Add"))|_=>Go.unsupported (.unsafePointer "Add"):Sem _)
   (match (generalizing:=false) a with|some a=>(do match ←Go.shape a.block with|some (e,b)=>(do let p ←program;match cellAtBytes p p.depth e (b/p.cellsOf e) a.off n with|some off=>Pure.pure (.pointer (some {a with off}))|none=>Go.unsupported (.unsafePointer "Add"))|_=>Go.unsupported (.unsafePointer "Add"))|_=>Go.unsupported (.unsafePointer "Add"):Sem Value):=by
   rcases a with _|a;exact ay.b _;refine ay.a ay.a0 λo=>?_;rcases o with _|x;exact ay.b _;apply ay.prog;simp only[eR];cases cellAtBytes P _ x.1 _ _ n with
   |none=>exact ay.b _
   |some o=>exact ay.c ς
  refine ay.i yK ?_ (ay.n yK (ay.b _) c);rcases a with _|a;exact ay.b _;exact ay.a ay.g9 λo=>ay.n ς (ay.b _) (ay.c ς)
 |_=>exact ay.d _
omit S in
def ay.b8{t:ϟ}{x y:Θ}:ay P U U.v (Go.movedNumber t (x.pm U) (y.pm U)) (Go.movedNumber t x y):=by
 refine ay.a ay.e λd=>ay.n yK (ay.b _) ?_;cases x with
 |pointer a=>
  rcases a with _|n;exact ay.t;refine ay.a ay.h λc=>?_;let⟨a,l⟩:=c;refine ay.a (by have:=ay.t (P:=P) (U:=U) (ts:=#[]) (t:=t) (x:=.pointer (some a)) (y:=y);simpa using this) λv=>?_;cases v with
  |pointer b=>cases b<;>first|exact ay.h0|exact ay.c rfl
  |_=>exact ay.c rfl
 |_=>exact ay.t
omit S in
def ay.d9{t:ϟ}{x y:Θ}:ay P U U.v (Go.movedPointer t (x.pm U) (y.pm U)) (Go.movedPointer t x y):=by
 unfold Go.movedPointer;cases x with
 |pointer a=>
  rcases a with _|n;exact ay.t;simp only[bh,yp];exact ay.a ay.e3 λo=>ay.n ς (ay.b _) (by have:=ay.t (P:=P) (U:=U) (ts:=#[]) (t:=t) (x:=.pointer (some n)) (y:=y);simp_all)
 |_=>exact ay.t
def ay.d8{a b:Addr}:ay P U (λx=>x) (Op.twoPlaces (a.pm U) (b.pm U)) (Op.twoPlaces a b):=by apply ay.prog;have c:=zN S a.block;exact ay.n (by simp;lia) (ay.b _) (ay.a ay.a4 λ_=>ay.a ay.a4 λ_=>ay.c rfl)
def ay.h4{k:IntKind}{a b:Addr}:ay P U U.v (Op.addrSub k (a.pm U) (b.pm U)) (Op.addrSub k a b):=ay.a (ay.d8 S) λ_=>ay.c ς
def ay.b4{c:BinOp}{a b:Addr}:ay P U U.v (Op.addrCmp c (a.pm U) (b.pm U)) (Op.addrCmp c a b):=
 ay.a (ay.d8 S) λ_=>by cases c<;>first|exact ay.c ς|exact ay.b _
omit S in
def ay.c6{k:IntKind}{a:Addr}{n:Int}:ay P U U.v (Op.addrMod k (a.pm U) n) (Op.addrMod k a n):=by refine ay.a ay.a0 λo=>?_;rcases o with _|x;exact ay.b _;exact ay.a ay.o λi=>ay.n yK (ay.b _) (ay.a ay.a4 λb=>ay.c ς)
end
section
variable {P:ϛ}{U:Perm}{M K γ δ:Type}
def ay.m1{h:γ->δ}{t:ϟ}{f:TypeDesc->Sem γ}{f':TypeDesc->Sem δ}(hf:∀d,P.underlying t=some d->ay P U h (f' d) (f d)):ay P U h (Go.underlying t>>=f') (Go.underlying t>>=f):=by rcases hd:P.underlying t with _|d;simp[ay,Go.underlying,program,Bind.bind,Sem.bind,Sem.bz,hd,Go.stuck,Sem.bN,Halt.pm,Halt.er];have:=hf d hd;simpa[ay,Go.underlying,program,Bind.bind,Sem.bind,Sem.bz,hd,Pure.pure]using this
theorem ay.d5{t:ϟ}{s:ϝ}:ay P U U.v (Conv.stringToBytes t s) (Conv.stringToBytes t s):=by unfold Conv.stringToBytes;refine ay.a ay.l λcap=>?_;have:=ay.b0 (P:=P) (U:=U) (t:=t) (cs:=(s.data.map λb=>(Value.int .u8 b.toNat))++Array.replicate (cap-s.size) (.int .u8 0));simp only[IY,Array.map_map,Function.comp_def,eF,Array.map_replicate]at this;exact ay.a this λa=>ay.a ay.a9 λ_=>ay.c ς
def lR(s:ϝ):∀(n i:Nat)(acc:ϡ),(Conv.runesFrom s n i acc).map U.v=Conv.runesFrom s n i (acc.map U.v)
 |0,_,_=>rfl
 |n+1,i,acc=>by unfold Conv.runesFrom;split;rw[lR s n];simp;rfl
theorem ay.d6{t:ϟ}{s:ϝ}:ay P U U.v (Conv.stringToRunes t s) (Conv.stringToRunes t s):=by unfold Conv.stringToRunes;refine ay.a ay.l λcap=>?_;have:=ay.b0 (P:=P) (U:=U) (t:=t) (cs:=Conv.runesFrom s s.size 0 #[]++Array.replicate (cap-(Conv.runesFrom s s.size 0 #[]).size) (.int .i32 0));simp only[IY,lR,eF,Array.map_replicate,Fj,Cx]at this;exact ay.a this λa=>ay.c ς
def ay.f9{C:Type}{f f':Θ->C->Sem (ForInStep C)}(hf:∀i s,ay P U (λx=>x) (f' (i.pm U) s) (f i s))(l:ϡ)(s:C):ay P U (λx=>x) (ForIn.forIn (l.map U.v) s f') (ForIn.forIn l s f):=by
 rw[<-Lh,<-Lh,yV];generalize l.toList=l;induction l generalizing s with
 |nil=>simp only[Cx,List.forIn_nil];exact ay.c rfl
 |cons x l ih=>
  simp only[yN,List.forIn_cons];refine ay.a (hf x s) λr=>?_;cases r with
  |done a=>exact ay.c rfl
  |yield a=>exact ih a
theorem ay.c7{x:Θ}:ay P U U.v (Conv.bytesToString (x.pm U)) (Conv.bytesToString x):=by
 unfold Conv.bytesToString;cases x with
 |slice a l c=>
  rcases a with _|a;exact ay.c ς;refine ay.a ay.a5 λcs=>ay.a (ay.f9 (λv s=>?_) _ _) λs=>ay.c ς;cases v with
  |int k n=>cases k<;>first|exact ay.c rfl|exact ay.a (hα:=λx=>x) (ay.d _) λ_=>ay.c rfl|exact Eqv.s _
  |_=>exact ay.d _
 |_=>exact ay.d _
theorem ay.d3{x:Θ}:ay P U U.v (Conv.runesToString (x.pm U)) (Conv.runesToString x):=by
 unfold Conv.runesToString;cases x with
 |slice a l c=>
  rcases a with _|a;exact ay.c ς;refine ay.a ay.a5 λcs=>ay.a (ay.f9 (λv s=>?_) _ _) λs=>ay.c ς;cases v with
  |int k n=>cases k<;>first|exact ay.c rfl|exact ay.d _
  |_=>exact ay.d _
 |_=>exact ay.d _
def ay.f8{s:FloatKind}{b:Nat}{d:IntKind}:ay P U U.v (Conv.floatToInt s b d) (Conv.floatToInt s b d):=by
 unfold Conv.floatToInt;have ha:ay P U U.v (do Pure.pure (.int d (d.wrap (<-Go.choose (.floatToInt s b d)))):Sem Θ) (do Pure.pure (.int d (d.wrap (<-Go.choose (.floatToInt s b d)))):Sem Θ):=ay.a ay.l λ_=>ay.c ς;cases (s.decode b).toInt .zero with
 |none=>exact ha
 |some n=>exact ay.i yK (ay.c ς) ha
def ay.b6{s d:FloatKind}{a b:Nat}:ay P U U.v (Conv.complexToComplex s a b d) (Conv.complexToComplex s a b d):=by
 unfold Conv.complexToComplex;refine ay.a ay.u λv=>?_;cases v with
 |float k n=>
  refine ay.a ay.u λv=>?_;cases v with
  |float k n=>exact ay.c ς
  |_=>exact ay.d _
 |_=>exact ay.d _
def Dq(P:ϛ)(src dst:ϟ):Prop:=P.underlying src≠some .unsafePointer/\P.underlying dst≠some .unsafePointer
def ay.h5{src dst:ϟ}{x:Θ}(ok:Dq P src dst):ay P U U.v (Go.convert src dst (x.pm U)) (Go.convert src dst x):=by
 unfold Go.convert;refine ay.m1 λs hs=>ay.m1 λd hd=>?_;have h1:s≠.unsafePointer:=λe=>ok.1 (e▸hs);have h2:d≠.unsafePointer:=λe=>ok.2 (e▸hd);cases d with
 |unsafePointer=>exact absurd rfl h2
 |int k=>
  cases x with
  |int k' n=>exact ay.c ς
  |float k' n=>exact ay.f8
  |pointer a=>cases a<;>cases s<;>first|exact absurd rfl h1|exact ay.b _
  |_=>cases s<;>first|exact absurd rfl h1|exact ay.b _
 |float k=>
  cases x with
  |int k' n=>exact ay.c ς
  |float k' n=>exact ay.u
  |pointer a=>cases a<;>cases s<;>first|exact absurd rfl h1|exact ay.b _
  |_=>cases s<;>first|exact absurd rfl h1|exact ay.b _
 |complex k=>
  cases x with
  |complex k' a b=>exact ay.b6
  |pointer a=>cases a<;>cases s<;>first|exact absurd rfl h1|exact ay.b _
  |_=>cases s<;>first|exact absurd rfl h1|exact ay.b _
 |string=>
  have hsl:∀(e:TypeId)(x:Value),ay P U U.v (do match ←Go.underlying e with|.int .u8=>Conv.bytesToString (x.pm U)|.int .i32=>Conv.runesToString (x.pm U)|_=>Go.stuck "Convert: a slice of what to string?" :Sem Value)
   (do match ←Go.underlying e with|.int .u8=>Conv.bytesToString x|.int .i32=>Conv.runesToString x|_=>Go.stuck "Convert: a slice of what to string?" :Sem Value):=λe x=>
   ay.a ay.e λd=>by grind[c7,d3,d]
  cases x with
  |int k' n=>exact ay.c ς
  |string s=>exact ay.c ς
  |pointer a=>cases a<;>cases s<;>first|exact absurd rfl h1|exact ay.b _|exact hsl _ (.pointer _)
  |bool b=>cases s<;>first|exact absurd rfl h1|exact ay.b _|exact hsl _ (.bool _)
  |float b c=>cases s<;>first|exact absurd rfl h1|exact ay.b _|exact hsl _ (.float _ _)
  |complex b c d=>cases s<;>first|exact absurd rfl h1|exact ay.b _|exact hsl _ (.complex _ _ _)
  |slice b c d=>cases s<;>first|exact absurd rfl h1|exact ay.b _|exact hsl _ (.slice _ _ _)
  |map b=>cases s<;>first|exact absurd rfl h1|exact ay.b _|exact hsl _ (.map _)
  |chan b=>cases s<;>first|exact absurd rfl h1|exact ay.b _|exact hsl _ (.chan _)
  |func b c d=>cases s<;>first|exact absurd rfl h1|exact ay.b _|exact hsl _ (.func _ _ _)
  |nilFunc=>cases s<;>first|exact absurd rfl h1|exact ay.b _|exact hsl _ .nilFunc
  |iface b c=>cases s<;>first|exact absurd rfl h1|exact ay.b _|exact hsl _ (.iface _ _)
  |nilIface=>cases s<;>first|exact absurd rfl h1|exact ay.b _|exact hsl _ .nilIface
  |agg b=>cases s<;>first|exact absurd rfl h1|exact ay.b _|exact hsl _ (.agg _)
  |tuple b=>cases s<;>first|exact absurd rfl h1|exact ay.b _|exact hsl _ (.tuple _)
 |slice e=>
  cases x with
  |string t=>
   refine ay.a ay.e λd=>?_;grind[d5,d6,d]
  |slice a l c=>
   rcases a with _|a
   .cases s<;>first|exact absurd rfl h1|exact ay.b _
   simp only[jA,yp];cases s with
   |unsafePointer=>exact absurd rfl h1
   |slice e'=>
    refine ay.a ay.e λd=>?_;cases src==dst;exact ay.b _;cases d with
    |int k=>cases k<;>first|exact ay.a ay.a9 λ_=>ay.c ς|exact ay.b _
    |_=>exact ay.b _
   |_=>exact ay.b _
  |pointer a=>cases a<;>cases s<;>first|exact absurd rfl h1|exact ay.b _
  |_=>cases s<;>first|exact absurd rfl h1|exact ay.b _
 |_=>
  cases x with
  |pointer a=>cases a<;>cases s<;>first|exact absurd rfl h1|exact ay.b _
  |_=>cases s<;>first|exact absurd rfl h1|exact ay.b _
end
section
variable {P:ϛ}{U:Perm}(S:dE P U){M K:Type}
include S
def ay.k6{op:BinOp}{t:ϟ}{a b:ϣ}:ay P U U.v (Go.binOp op t (.pointer (a.map (Addr.pm U))) (.pointer (b.map (Addr.pm U)))) (Go.binOp op t (.pointer a) (.pointer b)):=by
 unfold Go.binOp;have he:=ay.a1 S Op.maxDepth t (.pointer a) (.pointer b);simp only[bh]at he;cases op with
 |eql=>exact ay.a he λ_=>ay.c ς
 |neq=>exact ay.a he λ_=>ay.c ς
 |sub=>cases a<;>cases b<;>first|exact ay.b _|exact ay.a ay.h λ_=>ay.a ay.h λ_=>ay.h4 S
 |lss=>cases a<;>cases b<;>first|exact ay.b _|exact ay.a ay.h λ_=>ay.a ay.h λ_=>ay.b4 S
 |leq=>cases a<;>cases b<;>first|exact ay.b _|exact ay.a ay.h λ_=>ay.a ay.h λ_=>ay.b4 S
 |gtr=>cases a<;>cases b<;>first|exact ay.b _|exact ay.a ay.h λ_=>ay.a ay.h λ_=>ay.b4 S
 |geq=>cases a<;>cases b<;>first|exact ay.b _|exact ay.a ay.h λ_=>ay.a ay.h λ_=>ay.b4 S
 |_=>cases a<;>cases b<;>exact ay.b _
end
section
variable {P:ϛ}{U:Perm}(S:dE P U){M K:Type}
include S
def ay.k5{op:BinOp}{t:ϟ}{a:ϣ}{k:IntKind}{n:Int}:ay P U U.v (Go.binOp op t (.pointer (a.map (Addr.pm U))) (.int k n)) (Go.binOp op t (.pointer a) (.int k n)):=by
 unfold Go.binOp;have he:=ay.a1 S Op.maxDepth t (.pointer a) (.int k n);have hm:=λm=>ay.b8 (P:=P) (U:=U) (t:=t) (x:=.pointer a) (y:=.int k m);have hp:=ay.d9 (P:=P) (U:=U) (t:=t) (x:=.pointer a) (y:=.int k n);simp only[bh,eF]at he hm hp;cases op with
 |eql=>exact ay.a he λ_=>ay.c ς
 |neq=>exact ay.a he λ_=>ay.c ς
 |add=>exact ay.a ay.e λd=>ay.i yK hp (hm n)
 |sub=>cases a<;>exact hm (-n)
 |rem=>cases a<;>first|exact ay.b _|exact ay.a ay.h λ_=>ay.c6
 |and=>cases a<;>first|exact ay.b _|exact ay.a ay.h λ_=>ay.c6
 |_=>cases a<;>exact ay.b _
def ay.k3{op:BinOp}{t:ϟ}{a:ϣ}{k:IntKind}{n:Int}:ay P U U.v (Go.binOp op t (.int k n) (.pointer (a.map (Addr.pm U)))) (Go.binOp op t (.int k n) (.pointer a)):=by
 unfold Go.binOp;have he:=ay.a1 S Op.maxDepth t (.int k n) (.pointer a);have hm:=ay.b8 (P:=P) (U:=U) (t:=t) (x:=.pointer a) (y:=.int k n);simp only[bh,eF]at he hm;cases op with
 |eql=>exact ay.a he λ_=>ay.c ς
 |neq=>exact ay.a he λ_=>ay.c ς
 |add=>exact hm
 |and=>cases a<;>first|exact ay.b _|exact ay.a ay.h λ_=>ay.c6
 |_=>cases a<;>exact ay.b _
def ay.k2{op:BinOp}{t:ϟ}{k k':IntKind}{n m:Int}:ay P U U.v (Go.binOp op t (.int k n) (.int k' m)) (Go.binOp op t (.int k n) (.int k' m)):=by
 unfold Go.binOp;cases op with
 |shl=>exact ay.i5 S
 |shr=>exact ay.i5 S
 |_=>apply ay.i yK (ay.d _);first|exact ay.e2|exact ay.j2 S|exact ay.g0|exact ay.j1
def ay.k4{op:BinOp}{t:ϟ}{x y:Θ}:ay P U U.v (Go.binOp op t (x.pm U) (y.pm U)) (Go.binOp op t x y):=by
 have he:=ay.a1 S Op.maxDepth t x y;cases x with
 |int k n=>
  cases y with
  |int k' m=>simp only[eF];exact ay.k2 S
  |pointer a=>simp only[eF,bh];exact ay.k3 S
  |_=>unfold Go.binOp;cases op<;>first|exact ay.a he λ_=>ay.c ς|exact ay.d _
 |pointer a=>
  cases y with
  |int k' m=>simp only[eF,bh];exact ay.k5 S
  |pointer b=>simp only[bh];exact ay.k6 S
  |_=>unfold Go.binOp;cases op<;>first|exact ay.a he λ_=>ay.c ς|exact ay.b _|cases a<;>exact ay.b _
 |float k n=>
  cases y with
  |float k' m=>unfold Go.binOp;cases op<;>apply ay.i yK (ay.d _)<;>first|exact ay.c1|exact ay.e1
  |pointer b=>unfold Go.binOp;cases op<;>first|exact ay.a he λ_=>ay.c ς|exact ay.b _|cases b<;>exact Eqv.u _
  |_=>unfold Go.binOp;cases op<;>first|exact ay.a he λ_=>ay.c ς|exact ay.d _
 |complex k n m=>
  cases y with
  |complex k' u v=>unfold Go.binOp;cases op<;>exact ay.i yK (ay.d _) ay.g3
  |pointer b=>unfold Go.binOp;cases op<;>first|exact ay.a he λ_=>ay.c ς|exact ay.b _|cases b<;>exact Eqv.u _
  |_=>unfold Go.binOp;cases op<;>first|exact ay.a he λ_=>ay.c ς|exact ay.d _
 |string s=>
  cases y with
  |string s'=>unfold Go.binOp;simp only[ru];cases op<;>exact ay.b9
  |pointer b=>unfold Go.binOp;cases op<;>first|exact ay.a he λ_=>ay.c ς|exact ay.b _|cases b<;>exact Eqv.u _
  |_=>unfold Go.binOp;cases op<;>first|exact ay.a he λ_=>ay.c ς|exact ay.d _
 |_=>
  cases y with
  |pointer b=>unfold Go.binOp;cases op<;>first|exact ay.a he λ_=>ay.c ς|exact ay.b _|cases b<;>exact Eqv.u _
  |_=>unfold Go.binOp;cases op<;>first|exact ay.a he λ_=>ay.c ς|exact ay.d _
end
section
variable {P:ϛ}{U:Perm}{M K:Type}
def ay.h6{op:BinOp}{t:ϟ}{x y:Operand}{a b:Θ}:ay P U (λx=>x) (Go.eqGuard op t x y (a.pm U) (b.pm U)) (Go.eqGuard op t x y a b):=by
 unfold Go.eqGuard;apply ay.i yK (ay.c rfl);cases a with
 |nilIface=>
  cases b with
  |nilIface=>
   apply ay.i yK (ay.c rfl);exact ay.a (ay.b3 _ _ .nilIface .nilIface) λb=>ay.i yK (ay.b _) (ay.c rfl)
  |_=>exact ay.c rfl
 |agg xs=>
  cases b with
  |agg ys=>
   refine ay.prog (ay.prog (ay.i yK (ay.c rfl) ?_));have:=ay.b3 (P:=P) (U:=U) Op.maxDepth t (.agg xs) (.agg ys);exact ay.a this λb=>ay.i yK (ay.b _) (ay.c rfl)
  |_=>exact ay.c rfl
 |_=>exact ay.c rfl
def ay.l8{x y:Θ}:ay P U U.v (Builtin.max2 (x.pm U) (y.pm U)) (Builtin.max2 x y):=by
 cases x with
 |int k n=>cases y with
   |int k' m=>exact ay.c ς
   |pointer a=>cases a<;>first|exact ay.b _|exact ay.d _
   |_=>exact ay.d _
 |float k n=>cases y with
   |float k' m=>
    simp only[uL,Builtin.max2];split;exact ay.a ay.l λ_=>ay.c ς;all_goals exact ay.c ς
   |pointer a=>cases a<;>first|exact ay.b _|exact ay.d _
   |_=>exact ay.d _
 |string s=>cases y with
   |string s'=>exact ay.a ay.b9 λv=>ay.a ay.c3 λb=>ay.c ς
   |pointer a=>cases a<;>first|exact ay.b _|exact ay.d _
   |_=>exact ay.d _
 |pointer a=>cases a<;>cases y<;>first|exact ay.b _|exact ay.d _|(rename_i b;cases b<;>first|exact ay.b _|exact ay.d _)
 |_=>cases y<;>first|exact ay.d _|(rename_i b;cases b<;>first|exact ay.b _|exact ay.d _)
def ay.l9{x y:Θ}:ay P U U.v (Builtin.min2 (x.pm U) (y.pm U)) (Builtin.min2 x y):=by
 cases x with
 |int k n=>cases y with
   |int k' m=>exact ay.c ς
   |pointer a=>cases a<;>first|exact ay.b _|exact ay.d _
   |_=>exact ay.d _
 |float k n=>cases y with
   |float k' m=>
    simp only[uL,Builtin.min2];split;exact ay.a ay.l λ_=>ay.c ς;all_goals exact ay.c ς
   |pointer a=>cases a<;>first|exact ay.b _|exact ay.d _
   |_=>exact ay.d _
 |string s=>cases y with
   |string s'=>exact ay.a ay.b9 λv=>ay.a ay.c3 λb=>ay.c ς
   |pointer a=>cases a<;>first|exact ay.b _|exact ay.d _
   |_=>exact ay.d _
 |pointer a=>cases a<;>cases y<;>first|exact ay.b _|exact ay.d _|(rename_i b;cases b<;>first|exact ay.b _|exact ay.d _)
 |_=>cases y<;>first|exact ay.d _|(rename_i b;cases b<;>first|exact ay.b _|exact ay.d _)
def ay.e8{f f':Θ->Θ->Sem Θ}(hf:∀x y,ay P U U.v (f' (x.pm U) (y.pm U)) (f x y)):∀(l:Ϣ)(x:Θ),ay P U U.v ((l.map U.v).foldlM f' (x.pm U)) (l.foldlM f x)
 |[],x=>ay.c rfl
 |y::l,x=>by simp only[yN,List.foldlM_cons];exact ay.a (hf x y) λz=>ay.e8 hf l z
def ay.m5{ts:Array ϟ}{ty:ϟ}{args:ϡ}:ay P U U.v (Builtin.max_ ts ty (args.map U.v)) (Builtin.max_ ts ty args):=by
 unfold Builtin.max_;rw[yV];cases args.toList with
 |nil=>exact ay.d _
 |cons x l=>exact ay.e8 (λ_ _=>ay.l8) l x
def ay.m6{ts:Array ϟ}{ty:ϟ}{args:ϡ}:ay P U U.v (Builtin.min_ ts ty (args.map U.v)) (Builtin.min_ ts ty args):=by
 unfold Builtin.min_;rw[yV];cases args.toList with
 |nil=>exact ay.d _
 |cons x l=>exact ay.e8 (λ_ _=>ay.l9) l x
end
def _root_.Go.Place.pm(U:Perm):Place->Place
 |.val v=>.val (v.pm U)
 |.var a=>.var (a.pm U)
section
variable {P:ϛ}{U:Perm}{M K:Type}
def ay.get{t:ϟ}{x:Place}:ay P U U.v (Place.get t (x.pm U)) (Place.get t x):=by
 cases x with
 |val v=>exact ay.c rfl
 |var a=>exact ay.d1
end
section
variable {P:ϛ}{U:Perm}(S:dE P U){M K:Type}
include S
end
def G5(P:ϛ)(U:Perm)(v:Θ):Prop:=∀fn a b,v=.func fn a b->∃f fd,fn=.func f/\U.g f=f/\P.funcs[f]?=some fd/\fd.body.isSome=true
section
variable {P:ϛ}{U:Perm}(S:dE P U){M K:Type}
def ay.h1{f:FuncId}{args:ϡ}{a:Func}(d:U.g f=f)(c:P.funcs[f]?=some a)(h:a.body.isSome=true):ay P U (Next.pm U) (Go.callFunc f (args.map U.v)) (Go.callFunc f args):=by
 apply ay.prog;rw[c];have b:¬a.body.isNone=true:=by cases e:a.body<;>simp_all
 refine ay.i yK (ay.c rfl) ?_;rw[if_neg b,if_neg b];exact ay.c (by simp[Next.pm,d])
end
def rp(b:Builtin)(_:Nat):Bool:=
 match b with
 |.append|.clear|.copy|.delete|.len|.max|.min|.unsafeString=>true
 |_=>false
mutual
def qv:Value->Bool
 |.bool _|.int _ _|.float _ _|.complex _ _ _|.string _|.nilFunc|.nilIface=>true
 |.pointer a|.slice a _ _=>a.isNone
 |.map r|.chan r=>r.isNone
 |.func _ _ _=>false
 |.iface _ v=>qv v
 |.agg cs|.tuple cs=>Dd cs
def Dd:Array Value->Bool
 |⟨l⟩=>zM l
def zM:List Value->Bool
 |[]=>true
 |v::l=>qv v&&zM l
end
mutual
def lN(b:Perm):∀v:Value,qv v=true->v.pm b=v
 |.bool _,_|.int _ _,_|.float _ _,_|.complex _ _ _,_|.string _,_|.nilFunc,_|.nilIface,_=>ς
 |.pointer a,h=>by simp_all[qv]
 |.slice a _ _,h=>by simp_all[qv]
 |.map a,h=>by simp_all[qv]
 |.chan a,h=>by simp_all[qv]
 |.func _ _ _,h=>by grind[qv]
 |.iface t v,h=>by simp[lN b v h]
 |.agg c,h=>by have:=uu b c h;simp_all[fp]
 |.tuple c,h=>by have:=uu b c h;simp_all[fp]
def uu(b:Perm):∀a:Array Value,Dd a=true->zO b a=a
 |⟨l⟩,h=>by simp only[Dd]at h;simp only[zO,uv b l h]
def uv(b:Perm):∀l:List Value,zM l=true->xi b l=l
 |[],_=>by simp[xi]
 |v::l,h=>by simp only[zM,yB]at h;simp[xi,lN b v h.1,uv b l h.2]
end
def Be(_:ϛ)(F:Nat->Bool):Operand->Bool
 |.tmp _=>true
 |.const v=>qv v
 |.global _=>false
 |.func f=>F f
def uH(P:ϛ)(F:Nat->Bool)(o:Op):Bool:=
 o.operands.all (Be P F)&&
 match o with
 |.move _|.assign _|.pick .. |.alloc _|.box .. |.build .. |.buildSlice .. |.load .. |.store .. |.nilCheck _|.binOp .. |.unOp .. |.makeInterface .. |.makeMap ..
 |.makeSlice .. |.slice .. |.fieldAddr ..  |.indexAddr .. |.index .. |.lookup .. |.mapUpdate .. |.range .. |.next .. |.entry _|.extract .. |.panic _=>true
 |.convert s d _=>!(P.underlying s matches some .unsafePointer)&& !(P.underlying d matches some .unsafePointer)
 |.makeFunc fn ..=>match fn with|.func f=>F f|_=>false
 |.call c=>match c.callee with|.builtin b=>rp b c.args.size|.value _=>true|.invoke ..=>false
 |_=>false
section
variable {P:ϛ}{π:Perm}(S:dE P π)
omit S in
def ay.d0:∀(n:Nat){a:Addr}{c:ϝ},ay P π (λx=>x) (Go.loadBytes (a.pm π) c n) (Go.loadBytes a c n)
 |0,_,_=>ay.c rfl
 |n+1,a,c=>by
   refine ay.a ay.i2 λv=>?_;cases v with
   |int k b=>
    cases k<;>first|(rw[<-eQ];exact ay.d0 n)|simp[d]
   |_=>simp[d]
include S in
def ay.e0{d:Array ϟ}{t:ϟ}{c:ϡ}:ay P π π.v (Go.Builtin.unsafeString_ d t (c.map π.v)) (Go.Builtin.unsafeString_ d t c):=by
 have f:∀(p:ϣ)(y:Θ),ay P π π.v (Go.Builtin.unsafeString_ d t #[.pointer (p.map (Addr.pm π)),y.pm π]) (Go.Builtin.unsafeString_ d t #[.pointer p,y]):=λp y=>by
  refine ay.a ay.b2 λn=>?_;cases d[0]? with
  |none=>exact ay.d _
  |some g=>
   refine ay.n yK (ay.f S _) (ay.n yK (ay.b _) ?_);rcases p with _|a;exact ay.i yK (ay.c rfl) (ay.f S _);refine ay.i yK (ay.c rfl) ?_;refine ay.a ay.g7 λe=>ay.a ay.f4 λb=>?_;cases b;exact ay.b _;exact ay.a (ay.d0 _) λs=>ay.a ay.j0 λ_=>ay.c rfl
 let⟨l⟩:=c;have e:(Array.mk l).map π.v=Array.mk (l.map π.v):=ς;rw[e];match l with
 |[]=>exact(ay.d _)
 |[x]=>exact(ay.d _)
 |x::y::z::r=>exact(ay.d _)
 |[x,y]=>
  cases x with
  |pointer p=>simp_all
  |_=>exact(ay.d _)
end
section
variable {P:ϛ}{π:Perm}(S:dE P π){F:Nat->Bool}{α β:Type}
def ay.s{s a:Sem Θ}(h:ay P π π.v a s):ay P π (Next.pm π) (do Pure.pure (.value (<-a))) (do Pure.pure (.value (<-s))):=ay.a h λ_=>ay.c rfl
def ay.j9{s a:Sem Unit}(h:ay P π (λx=>x) a s):ay P π (Next.pm π) (do a;Pure.pure .skip) (do s;Pure.pure .skip):=ay.a h λ_=>ay.c rfl
include S in
def ay.e7{ρ ρ':Operand->Θ}(j:∀x,Be P F x=true->ρ' x=(ρ x).pm π)(X:∀f,F f=true->π.g f=f)(I:∀x,Be P F x=true->G5 P π (ρ x)){o:Oper}(G:uH P F o.op=true)(N:∀x,o.op≠.panic x):ay P π (Next.pm π) (Go.execOp ρ' o) (Go.execOp ρ o):=by
 unfold uH at G;rw[yB]at G;let⟨V,w⟩:=G;have h:∀x∈o.op.operands,Be P F x=true:=λx H=>by grind[Ku]
 unfold Go.execOp;have B:∀x:Option Operand,(∀y∈x,Be P F y=true)->x.map ρ'=(x.map ρ).map π.v:=λx H=>by rcases x with _|y;rfl;grind
 have A:∀C:Array (Nat×Operand),(∀y∈C,Be P F y.2=true)->(C.map λx=>(x.1,ρ' x.2))=(C.map λx=>(x.1,ρ x.2)).map λx=>(x.1,x.2.pm π):=λC H=>by rw[Array.map_map];grind
 have D:∀C:Array Operand,(∀y∈C,Be P F y=true)->C.map ρ'=(C.map ρ).map π.v:=λC H=>by grind
 cases q:o.op with
 |move x=>rw[q]at h;dsimp only;rw[j x (h x (by simp[Op.operands]))];exact ay.c rfl
 |assign x=>rw[q]at h;dsimp only;rw[j x (h x (by simp[Op.operands]))];exact ay.c rfl
 |pick c a b=>
  rw[q]at h;dsimp only;rw[j c (h c (by simp[Op.operands])),j a (h a (by simp[Op.operands])),j b (h b (by simp[Op.operands]))];exact ay.a ay.c3 λb=>ay.c (by cases b<;>rfl)
 |alloc e=>exact ay.s (by have:=ay.k0 S (t:=e) (b:=true) (old:=.tuple #[]);simp_all)
 |box e x=>rw[q]at h;dsimp only;rw[j x (h x (by simp[Op.operands]))];exact ay.s ay.m2
 |build t C=>
  rw[q]at h;dsimp only;rw[A C λy z=>h y.2 (by simp only[Op.operands,Cy,yW];grind)];exact ay.s (ay.k7 S)
 |buildSlice t n C=>
  rw[q]at h;dsimp only;rw[A C λy z=>h y.2 (by simp only[Op.operands,Cy,yW];grind)];exact ay.s (ay.f6 S)
 |load t a=>rw[q]at h;dsimp only;rw[j a (h a (by simp[Op.operands]))];exact ay.s ay.j3
 |store t a x=>rw[q]at h;dsimp only;rw[j a (h a (by simp[Op.operands])),j x (h x (by simp[Op.operands]))];exact ay.j9 ay.i7
 |nilCheck x=>
  rw[q]at h;dsimp only;have H:=h x (by simp[Op.operands]);rw[j x H];have L:=I x H;generalize ρ x=v at L;cases v with
  |pointer a=>cases a<;>first|exact ay.f S _|exact ay.c rfl
  |nilIface=>exact ay.f S _
  |nilFunc=>exact ay.f S _
  |func K u p=>
   obtain⟨f,fd,rfl,_⟩:=L _ _ _ rfl;exact ay.c rfl
  |_=>exact ay.c rfl
 |binOp op t x y yt=>rw[q]at h;dsimp only;rw[j x (h x (by simp[Op.operands])),j y (h y (by simp[Op.operands]))];exact ay.s (ay.a ay.h6 λ_=>ay.k4 S)
 |unOp op t x=>rw[q]at h;dsimp only;rw[j x (h x (by simp[Op.operands]))];exact ay.s ay.l4
 |convert s d x=>
  rw[q]at h w;dsimp only;rw[j x (h x (by simp[Op.operands]))];refine ay.s (ay.h5 ⟨λe=>?_,λe=>?_⟩);grind;grind
 |makeInterface t x=>rw[q]at h;dsimp only;rw[j x (h x (by simp[Op.operands]))];exact ay.s ay.d2
 |makeFunc K u p=>
  rw[q]at h w;dsimp only;rw[D u λy z=>h y (by simp[Op.operands,z]),D p λy z=>h y (by simp[Op.operands,z])];have M:K.pm π=K:=by cases K<;>first|grind[Fn.pm]|cases w
  exact ay.s (ay.c (by simp[M]))
 |makeMap t r=>rw[q]at h;dsimp only;rw[B r λy z=>h y (by cases z;simp[Op.operands])];exact ay.s ay.i3
 |makeSlice t l c=>rw[q]at h;dsimp only;rw[j l (h l (by simp[Op.operands])),j c (h c (by simp[Op.operands]))];exact ay.s (ay.g4 S)
 |slice t x U Y Z=>
  rw[q]at h;dsimp only;rw[j x (h x (by simp[Op.operands])),B U λy z=>h y (by cases z;simp[Op.operands]),B Y λy z=>h y (by cases z;simp[Op.operands]),B Z λy z=>h y (by cases z;simp[Op.operands])];exact ay.s (ay.i6 S)
 |fieldAddr s x f=>rw[q]at h;dsimp only;rw[j x (h x (by simp[Op.operands]))];exact ay.s ay.h8
 |indexAddr t x E=>rw[q]at h;dsimp only;rw[j x (h x (by simp[Op.operands])),j E (h E (by simp[Op.operands]))];exact ay.s (ay.h9 S)
 |index t x E=>rw[q]at h;dsimp only;rw[j x (h x (by simp[Op.operands])),j E (h E (by simp[Op.operands]))];exact ay.s (ay.l1 S)
 |lookup t x E b=>rw[q]at h;dsimp only;rw[j x (h x (by simp[Op.operands])),j E (h E (by simp[Op.operands]))];exact ay.s (ay.j4 S)
 |mapUpdate t m k x=>rw[q]at h;dsimp only;rw[j m (h m (by simp[Op.operands])),j k (h k (by simp[Op.operands])),j x (h x (by simp[Op.operands]))];exact ay.j9 (ay.g5 S)
 |range t x=>rw[q]at h;dsimp only;rw[j x (h x (by simp[Op.operands]))];exact ay.s ay.range
 |next x b=>rw[q]at h;dsimp only;rw[j x (h x (by simp[Op.operands]))];exact ay.s ay.m0
 |entry x=>rw[q]at h;dsimp only;rw[j x (h x (by simp[Op.operands]))];exact ay.s ay.k9
 |extract x i=>rw[q]at h;dsimp only;rw[j x (h x (by simp[Op.operands]))];exact ay.s ay.h7
 |panic x=>exact absurd q (N x)
 |call c=>
  rw[q]at h w;dsimp only at w|-;unfold Go.resolve;rw[D c.args λy z=>h y (by simp[Op.operands,Call.operands,z])];cases Q:c.callee with
  |value f=>
   have M:=h f (by simp[Op.operands,Call.operands,Q]);dsimp only;rw[j f M];have L:=I f M;generalize ρ f=v at L;cases v with
   |func K u p=>
    obtain⟨W,fd,rfl,T,R,O⟩:=L _ _ _ rfl;rw[sI];have:=ay.h1 (P:=P) (U:=π) (f:=W) (args:=u++c.args.map ρ++p) T R O;simp only[IY]at this;simp only[Fn.pm,T];exact this
   |nilFunc=>exact(show ay P π (Next.pm π) (Go.runtimePanic .nilDeref:Sem Next) (Go.runtimePanic .nilDeref:Sem Next) from ay.f S _)
   |_=>exact ay.d _
  |invoke r n=>rw[Q]at w;cases w
  |builtin b=>
   rw[Q]at w;dsimp only at w|-;cases b with
   |append=>exact ay.s (ay.i8 S)
   |clear=>exact ay.s (ay.k8 S)
   |copy=>exact ay.s ay.copy
   |delete=>exact ay.s (ay.i9 S)
   |len=>exact ay.s ay.m4
   |max=>exact ay.s ay.m5
   |min=>exact ay.s ay.m6
   |unsafeString=>exact ay.s (ay.e0 S)
   |_=>cases w
 |_=>rw[q]at w;cases w
end
