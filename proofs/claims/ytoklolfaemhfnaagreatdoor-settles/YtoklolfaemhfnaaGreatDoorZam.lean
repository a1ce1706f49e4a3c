import Derived.Test.YtoklolfaemhfnaaGreatDoorRows
import Derived.WalkKit
import Derived.WalkSpells
import Derived.WalkLawsBesides
import Derived.Laws.BitsAllLaws
import Derived.Maps.AppendAt
import Derived.Deep.QuietTactic
import Derived.BigQuiet
import Derived.Laws.CopyOwn
import Derived.Deep.RegionHeld3
import Derived.Deep.DeepCutAuto
import Derived.WideLaws
import Derived.Test.YtoklolfaemhfnaaGreatDoorZaa
import Derived.Test.YtoklolfaemhfnaaGreatDoorZag
set_option maxRecDepth 100000
set_option maxHeartbeats 0
set_option linter.defProp false
open Go.Proofs.Tryz
abbrev ϖ(f a w Q):=Go.Calls Go.Proofs.Tryz.prog f a w Q
namespace Go.Proofs.Y
section
open Go.RowKit
variable {w w':Δ}{X lo hi n Y B base sz:Nat}{cs:ϡ}{v:Θ}{xs:Ϣ}
def aB{a b:Bool}(h:a=b):Ending.returned (.bool a)=.returned (.bool b):=by rw[h]
def dN{k:IntKind}{a b:Int}(h:a=b):Ending.returned (.int k a)=.returned (.int k b):=by rw[h]
def ints(l:Υ):Ϣ:=l.map (Value.int .i64)
def fe(l:Υ):(ints l).length=l.length:=by simp[ints]
def af(w:Δ)(X:Nat)(T:ϟ)(cs:ϡ):Prop:=w.heap[X]?=some (.cells cs T (0,0))
def af.a{T:ϟ}(h:af w X T cs)(j:Nat)(u:Θ)(a:cs[j]?=some u):w.cell? (aT X j)=some u:=by rwa [cell_of_row w X j cs T (0,0) h]
def af.b{T:ϟ}(h:af w X T cs)(j:Nat):w.frozen? (aT X j)=false:=frozen_of_row w X j cs T h
def af.e{T:ϟ}(h:af w X T cs)(j:Nat)(u:Θ):af (w.setCell ⟨X,j,none⟩ u) X T (cs.setIfInBounds j u):=heap_setCell_same w X j cs T u h
def af.h{T:ϟ}(h:af w X T cs)(a:X≠Y)(j:Nat)(u:Θ):af (w.setCell ⟨Y,j,none⟩ u) X T cs:=by unfold af;rwa [yT _ _ _ _ a]
def af.f{T:ϟ}(h:af w X T cs):X<w:=(yk.1 h).1
def af.d(w:Δ)(X:Nat)(b:w.heap.size=X)(T:ϟ)(a:ϡ):af (w.alloc (.cells a T)) X T a:=by subst b;exact heap_alloc_new w _
def af.g{T:ϟ}(h:af w X T cs)(o:Obj):af (w.alloc o) X T cs:=by unfold af;rwa [yQ _ _ _ h.f]
def af.c{T:ϟ}(h:af w X T cs)(a:Below B w w')(b:X<B):af w' X T cs:=by unfold af;rwa [a.block X b]
def af.i{T:ϟ}(h:af w X T cs):af w.drew X T cs:=h
def kM{W a:Δ}(c:Ϟ W a):(∀b o,b<W.heap.size->a.cell? (aT b o)=W.cell? (aT b o))/\(∀b o,b<W.heap.size->a.frozen? (aT b o)=W.frozen? (aT b o)):=
 ⟨λb _ h=>yq (c.block b h),λb _ h=>G4 (c.block b h)⟩
def DU{p:Ξ}(W:Δ)(h:∀a,Hid (a=W)->p a):p W:=h W rfl
structure ej(X:Nat)(w w':Δ):Prop where
 os:w'.os=w.os
 tape:w'.tape=w.tape
 output:w'.output=w.output
 size:w'.heap.size=w.heap.size
 block:∀b,b≠X->w'.heap[b]?=w.heap[b]?
def ej.d(X:Nat)(w:Δ):ej X w w:=⟨rfl,rfl,rfl,rfl,λ_ _=>rfl⟩
def ej.a(h:ej X w w')(j:Nat)(u:Θ):ej X w (w'.setCell ⟨X,j,none⟩ u):=
 {h with size:=ϰ h.size,block:=λb a=>(yT _ _ _ _ a).trans (h.block b a)}
def ej.c(h:ej X w w')(a:B<=X):Below B w w':={h with size:=h.size▸Ϫ,block:=λb c=>h.block b ω}
def aj{e:ϟ}(h:w.ownsRow base e sz v n xs)(f:∀g,v.ownBlock=some g->w'.heap[g]?=w.heap[g]?):w'.ownsRow base e sz v n xs:=by refine⟨h.1,?_⟩;rcases h.2 with d|⟨g,b,c,rfl,j,i,a⟩;exact .inl d;exact .inr ⟨g,b,c,rfl,j,(f g rfl).trans i,a⟩
def aD{base':Nat}{e:ϟ}(h:w.ownsRow base e sz v n xs)(i:base'<=base):w.ownsRow base' e sz v n xs:=by refine⟨h.1,?_⟩;rcases h.2 with d|⟨g,b,c,f,j,a⟩;exact .inl d;exact .inr ⟨g,b,c,f,ω,a⟩
def aQ{e:ϟ}(h:w.ownsRow base e sz v n xs)(a:Ϟ w w'):w'.ownsRow base e sz v n xs:=
 aj h λg b=>a.block g (h.lt g b).2
def Fa(w:Δ)(a b c:Obj):(((w.alloc a).alloc b).alloc c).heap[w.heap.size]?=some a/\(((w.alloc a).alloc b).alloc c).heap[w.heap.size+1]?=some b/\(((w.alloc a).alloc b).alloc c).heap[w.heap.size+1+1]?=some c/\Ϟ w (((w.alloc a).alloc b).alloc c):=by have g:Below _ w _:=((Ϡ.alloc Ϫ a).alloc ς b).alloc (by simp;lia) c;have f:(w.alloc a).heap.size=w.heap.size+1:=ς;have h:((w.alloc a).alloc b).heap.size=w.heap.size+1+1:=ς;have i:=heap_alloc_new w a;have d:=heap_alloc_new (w.alloc a) b;have e:=heap_alloc_new ((w.alloc a).alloc b) c;rw[f]at d;rw[h]at e;refine⟨?_,?_,e,g⟩;rwa [yQ _ _ _ ω,yQ _ _ _ ω];rwa [yQ _ _ _ ω]
def fU{t e:ϟ}{ds:ϡ}(h:af w X t cs)(a:af w Y e ds)(b:t≠e):X≠Y:=by intro c;subst c;unfold af at h a;rw[h]at a;injection a with a;injection a with _ h'' _;exact b h''
def FX{t:ϟ}(h:af w X t cs){b:Array MapEntry}{c:Nat}(a:w.heap[Y]?=some (.map b c)):X≠Y:=by intro d;subst d;unfold af at h;rw[h]at a;injection a with a;cases a
def gD(n:Nat):Int:=2^n-1
def ml(n:Nat)(w:Δ)(b:n<=6):ϖ 108 #[J n] w λe a=>e=.returned (J (gD n))/\a=w:=by
 match n,b with
 |0,_|1,_|2,_|3,_|4,_|5,_|6,_=>
  go_enter func108,ntmps108;go_wp2;go_ret;exact⟨rfl,rfl⟩
end
end Go.Proofs.Y
section
namespace Go
abbrev ε(w:Δ)(b o:Nat)(v:Θ):Prop:=w.cell? (aT b o)=some v
abbrev ϱ(e:Ending)(v:Θ):Prop:=e=.returned v
def Calls.m{P:ϛ}{f:FuncId}{a:ϡ}{w:Δ}{v:Θ}{Q:Ξ}{R:Ending->Ξ}(h:Calls P f a w λe w=>e=.returned v/\Q w)(k:∀w,Q w->R (.returned v) w):Calls P f a w R:=h.mono λ_ w h=>h.1▸k w h.2
end Go
namespace Go.Proofs.Y
def af.z{w:Δ}{X:Nat}{T:ϟ}{cs:ϡ}{u:Θ}(h:af w X T cs)(j:Nat)(a:cs[j]?=some u:=by (try simp only[List.getElem?_toArray,List.getElem?_cons_succ,List.getElem?_cons_zero]);exact rfl):w.cell? (aT X j)=some u:=h.a j u a
def af.y{w:Δ}{X:Nat}{T:ϟ}{cs:ϡ}{u:Θ}(h:af w X T cs)(j:Nat)(a:cs[j]?=some u:=by exact rfl):w.cell? (aT X j)=some u:=h.a j u a
end Go.Proofs.Y
end
namespace Go.Proofs.Y
section
open Go.RowKit
def FV(x:Nat)(a:x<4294967296):bits .and .u32 (x:Int) 1=((x%2:Nat):Int):=by have:=u32_and_nat x 1 a ω;rwa [Nat.and_one_is_mod]at this
def Fg(x:Nat)(a:x<4294967296):bits .xor .u32 ((x:Int)/2) 3988292384=((x/2^^^3988292384:Nat):Int):=by have:=u32_xor_nat (x/2) 3988292384 ω ω;rw[<-this];rfl
def tW(x:Nat)(d:x<4294967296)(w:Δ):ϖ 252 #[.int .u32 x] w λe j=>ϱ e (.int .u32 (Crc.sh x))/\j=w:=by
 have a:=FV x d;have b:=Fg x d;by_cases g:x%2=1
 .have f:Crc.sh x=x/2^^^3988292384:=by simp[Crc.sh,g]
  have c:Hid _:=f;have i:Hid _:=b;clear b f;have h:(bits .and .u32 x 1==1)=true:=by rw[a];simp;lia
  clear a;go_enter func252,ntmps252;go_wp2;go_ret;exact⟨dN (by rw[i,c]),rfl⟩
 have c:Hid (Crc.sh x=x/2):=by show Crc.sh x=x/2;simp[Crc.sh,g]
 have h:(bits .and .u32 x 1==1)=false:=by rw[a];simp;lia
 clear a b;go_enter func252,ntmps252;go_wp2;go_ret;exact⟨dN (by rw[c];simp),rfl⟩
def Ff(c:Nat)(a:c<4294967296)(b:UInt8):bits .xor .u32 (c:Int) ((b.toNat:Int)%4294967296)=((c^^^b.toNat:Nat):Int):=by have d:=b.toNat_lt;have:=u32_xor_nat c b.toNat a ω;rw[<-this,show (b.toNat:Int)%4294967296=b.toNat from ω]
def GO(c:Nat)(a:c<4294967296):bits .xor .u32 IntKind.u32.max (c:Int)=((c^^^4294967295:Nat):Int):=by have:=u32_xor_nat 4294967295 c ω a;rw[Nat.xor_comm,<-this];rfl
def Iq(s:ϝ)(k:Nat)(h:k<s.size):s.data.toList.getD k 0=s[k]:=by rw[yj,yh (ϰ h)];rfl
def Az(s:ϝ):s.data.toList.length=s.size:=by rw[AG];rfl
def xf(s:ϝ)(w:Δ)(p:s.size<=maxLen):ϖ 207 #[.string s] w λe m=>ϱ e (.int .u32 (Crc.zU s.data.toList))/\m=w:=by
 unfold maxLen at p;go_enter func207,ntmps207;go_wp2;go_loop [3,7] (λv i=>∃k c:Nat,k<=s.size/\i=J k/\v=.int .u32 c/\c<4294967296/\Hid (c=Crc.xG (s.data.toList.take k))) λ_ i=>s.size-(intOf i).toNat
 case atStart=>exact⟨0,4294967295,oI _,rfl,rfl,ω,rfl⟩
 case round=>
  obtain⟨k,c,r,rfl,rfl,hc,l⟩:=hrel;by_cases a:k<s.size
  .have o:=Ff c hc s[k];have n:c^^^s[k].toNat<4294967296:=Nat.xor_lt_two_pow (n:=32) ω (ϕ s[k].toNat_lt);have f:Hid (c^^^s[k].toNat=Crc.xG (s.data.toList.take k)^^^(s.data.toList.getD k 0).toNat):=by show _=_;rw[l,Iq s k a]
   go_wp2
   clear o;generalize c^^^s[k].toNat=x at n f|-;go_loop [3,16] (λv j=>∃t y:Nat,t<=8/\j=J t/\v=.int .u32 y/\y<4294967296/\Hid (y=Crc.uX t x)) λ_ j=>8-(intOf j).toNat
   case atStart=>exact⟨0,x,ω,rfl,rfl,n,rfl⟩
   case round=>
    obtain⟨t,y,q,rfl,rfl,b,d⟩:=hrel;by_cases g:t<8
    .go_wp2_with (go_at_call 252;apply (tW y b _).mono;rintro e m⟨rfl,rfl⟩);go_round
     case rel=>exact⟨t+1,Crc.sh y,ω,by go_num,rfl,Crc.Dy y b,d▸rfl⟩
     case measure=>simp[intOf];lia
    go_wp2
    go_round
    case rel=>exact⟨k+1,y,ω,by go_num,rfl,b,by show _=_;rw[d,f,show t=8 from ω,Crc.uU _ k (by rwa [Az])]⟩
    case measure=>simp[intOf];lia
  go_wp2
  go_ret;exact⟨dN (by rw[GO c hc,l,yX (by rw[Az];lia)];rfl),rfl⟩
variable {w w':Δ}{lo hi n:Nat}

end
section
variable{P:ϛ}{ops:Array Oper}{Q:Exit->Act->Ξ}{md:Region.Mode}{S:Ξ}{z n:Nat}{a:Act}{w:Δ}{o oz:Oper}{listed:Array Bool}{v:Θ}
def gl(P:ϛ)(md:Region.Mode)(ops:Array Oper)(Q:Exit->Act->Ξ)(S:Ξ)(z:Nat):Nat->Array Bool->Act->Ξ
 |0,listed,a,w=>Region.ready md ops listed=[]/\Q .normal a w
 |n+1,listed,a,w=>(Region.ready md ops listed=[]->Q .normal a w)/\
     ∀i∈Region.ready md ops listed,wpOp P ops Q i (λa' w'=>(i≠z->S w')/\gl P md ops Q S z n (listed.setIfInBounds i true) a' w') a w
def gl.d:∀(n:Nat)(b:Array Bool)(a:Act)(w:Δ),gl P md ops Q S z n b a w->wpAny P md ops Q n b a w
 |0,_,_,_,h=>h
 |n+1,_,_,_,h=>⟨h.1,λi d=>wpOp_mono (λf e c=>gl.d n _ f e c.2) (h.2 i d)⟩
def gl.first{i:Nat}(R:ops[i]?=some o)(X:ops[z]?=some oz)(L:∃e∈oz.after,Region.binds md e=true/\e.on=i)(r:Region.noSelect ops=true)(hQ:∀c a w,Q (.panic c) (a.put o.dst v) w->Q (.panic c) a w):∀(n:Nat)(d:Array Bool)(a:Act)(w:Δ),
   (∀j t,ops[j]?=some t->j≠i->d.getD j true=false->(∀e∈t.after,Region.binds md e=true->e.on≠i)->o.apart ops t=true)->
   i∈Region.ready md ops d->YieldsIf P ops S o v a->S w->
   gl P md ops Q S z n (d.setIfInBounds i true) (a.put o.dst v) w->gl P md ops Q S z (n+1) d a w:=by
 intro n;induction n with
 |zero=>
  intro d a w _ s D B H;refine⟨λh=>(by rw[h]at s;cases s),λj E=>?_⟩;by_cases f:j≠i;have:=ready_mono E f;rw[H.1]at this;cases this;have u:=Decidable.not_not.1 f;subst u;exact D.wpOp R B ⟨λ_=>B,H⟩
 |succ n Y=>
  intro d a w l s D B H;refine⟨λh=>(by rw[h]at s;cases s),λj E=>?_⟩;by_cases f:j≠i
  .obtain⟨p,t,g,A⟩:=mem_ready.1 E;have q:=(mem_ready.1 s).1;have m:∀e∈t.after,Region.binds md e=true->e.on≠i:=λe T M U=>by have x:=A e T M;rw[U]at x;rcases Fs i d.size with O|O;simp[O]at q x;rw[q]at x;cases x;simp[Array.getElem?_eq_none O]at x
   have N:j≠z:=λe=>by subst e;obtain⟨e,T,M,G⟩:=L;rw[X]at g;injection g with g;subst g;exact m e T M G
   have x:=H.2 j (ready_mono E f);have h2:=wpOp_putIf g (l j t g f p m) (λI b=>Region.noSelect_spec r i o I b R) (λI b=>Region.noSelect_spec r j t I b g) hQ D x;refine wpOp_mono (λW Z F=>⟨F.2.1,Y _ W Z (λk ok hk V y K=>l k ok hk V ?_ K) (ready_mono s (Ne.symm f)) F.1 (F.2.1 N) ?_⟩) h2
   .by_cases C:j≠k
    rwa [getD_set_ne true C]at y;rwa [<-Decidable.not_not.1 C]
   rw[Array.setIfInBounds_comm _ _ f];exact F.2.2
  have u:=Decidable.not_not.1 f;subst u;exact D.wpOp R B ⟨λ_=>B,H⟩
def gl.c(i:Nat)(d:ops[i]?=some o)(l:ops[z]?=some oz)(b:oz.after.any (λe=>Region.binds md e&&e.on==i)=true)(p:Region.noSelect ops=true)(m:Region.free md ops listed i=true)(j:(Region.ready md ops listed).contains i=true)(q:∀c a w,Q (.panic c) (a.put o.dst v) w->Q (.panic c) a w)(g:YieldsIf P ops S o v a)(r:S w)(h:gl P md ops Q S z n (listed.setIfInBounds i true) (a.put o.dst v) w):gl P md ops Q S z (n+1) listed a w:=by
 let⟨e,k,f⟩:=Array.any_eq_true'.1 b;simp only[yB,beq_iff_eq]at f;exact gl.first d l ⟨e,k,f⟩ p q n listed a w (Region.free_spec d m) (ϰ j) g r h
def gl.one(i:Nat)(c:Region.ready md ops listed=[i])(l:ops[i]?=some o)(h:∀b:Act->Ξ,Shut (∀a w,(i≠z->S w)->((i≠z->S w)->gl P md ops Q S z n (listed.setIfInBounds i true) a w)->b a w)->if Region.wanted o (yielded ops a.tmps)=true then Oper.wp P o a w b Q else b (a.put o.dst undef) w):gl P md ops Q S z (n+1) listed a w:=
 ⟨λd=>(by rw[c]at d;cases d),λj e=>by rw[c]at e;have:j=i:=ϰ e;subst this;exact wpOp_step l λb k=>h b λa w f g=>k a w ⟨f,g f⟩⟩
def gl.done(b:Region.ready md ops listed=[])(h:Q .normal a w):∀n,gl P md ops Q S z n listed a w
 |0=>⟨b,h⟩
 |_+1=>⟨λ_=>h,by rw[b];simp⟩
def gl.b(S:Ξ)(z:Nat){d:Nat}(b:P.follows .mixedOrders=true)(c:S w.drew)(h:S w.drew->gl P .any ops Q S z ops.size (Array.replicate ops.size false) a w.drew):(Code.region d ops true).wp P Q a w:=
 wp_region_any b (gl.d _ _ _ _ (h c))
end
section
open Go.RowKit
variable {w w':Δ}{X n:Nat}
def af.l{T:ϟ}{c e f d i b a g:Θ}(h:af w X T #[c,e,f,d,i,b,a,g]):w.cell? (aT X 0)=some c/\w.cell? (aT X 1)=some e/\w.cell? (aT X 2)=some f/\w.cell? (aT X 3)=some d/\w.cell? (aT X 4)=some i/\w.cell? (aT X 5)=some b/\w.cell? (aT X 6)=some a/\w.cell? (aT X 7)=some g/\w.frozen? (aT X 0)=false/\w.frozen? (aT X 1)=false/\w.frozen? (aT X 2)=false/\w.frozen? (aT X 3)=false/\w.frozen? (aT X 4)=false/\w.frozen? (aT X 5)=false/\w.frozen? (aT X 6)=false/\w.frozen? (aT X 7)=false:=
 ⟨h.a 0 _ rfl,h.a 1 _ rfl,h.a 2 _ rfl,h.a 3 _ rfl,h.a 4 _ rfl,h.a 5 _ rfl,h.a 6 _ rfl,h.a 7 _ rfl,h.b 0,h.b 1,h.b 2,h.b 3,h.b 4,h.b 5,h.b 6,h.b 7⟩
def LG{T:ϟ}{y z u r q j k l:Θ}(h:af w X T #[y,z,u,r,q,j,k,l])(a c b d e i f g:Θ):af ((((((((w.setCell ⟨X,0,none⟩ a).setCell ⟨X,1,none⟩ c).setCell ⟨X,2,none⟩ b).setCell ⟨X,3,none⟩ d).setCell ⟨X,4,none⟩ e).setCell ⟨X,5,none⟩ i).setCell ⟨X,6,none⟩ f).setCell ⟨X,7,none⟩ g) X T #[a,c,b,d,e,i,f,g]/\ej X w ((((((((w.setCell ⟨X,0,none⟩ a).setCell ⟨X,1,none⟩ c).setCell ⟨X,2,none⟩ b).setCell ⟨X,3,none⟩ d).setCell ⟨X,4,none⟩ e).setCell ⟨X,5,none⟩ i).setCell ⟨X,6,none⟩ f).setCell ⟨X,7,none⟩ g):=by
 have C:=h.e 0 a;have p:=C.e 1 c;have m:=p.e 2 b;have x:=m.e 3 d;have o:af _ X T #[a,c,b,d,e,j,k,l]:=x.e 4 e;have t:=o.e 5 i;have A:=t.e 6 f;have s:=A.e 7 g;exact⟨s,((((((((ej.d X w).a 0 a).a 1 c).a 2 b).a 3 d).a 4 e).a 5 i).a 6 f).a 7 g⟩
