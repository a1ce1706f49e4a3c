import Derived.Test.YtoklolfaemhfnaaGreatDoorRows
import Derived.WalkKit
import Derived.WalkSpells
import Derived.WalkLawsBesides
import Derived.Laws.BitsAllLaws
import Derived.Maps.AppendAt
import Derived.Deep.QuietTactic
import Derived.BigQuiet
import Derived.Laws.CopyOwn
import Derived.Deep.RegionHeld3
import Derived.Deep.DeepCutAuto
import Derived.WideLaws
import Derived.Test.YtoklolfaemhfnaaGreatDoorZaa
import Derived.Test.YtoklolfaemhfnaaGreatDoorZai
import Derived.Test.YtoklolfaemhfnaaGreatDoorZal
set_option maxRecDepth 100000
set_option maxHeartbeats 8000000
namespace Go.Proofs.YtoklolfaemhfnaaGreatDoor
section
open Go.RowKit
theorem qg{a b:Bool}(h:a=b):Ending.returned (.bool a)=.returned (.bool b):=by rw[h]
theorem qbg{k:IntKind}{a b:Int}(h:a=b):Ending.returned (.int k a)=.returned (.int k b):=by rw[h]
def ints(l:List Int):List Value:=l.map (Value.int .i64)
theorem qex(l:List Int):(ints l).length=l.length:=by simp[ints]
def BlkAt(w:World)(X:Nat)(T:TypeId)(cs:Array Value):Prop:=w.heap[X]?=some (.cells cs T (0,0))
theorem BlkAt.cell{w:World}{X:Nat}{T:TypeId}{cs:Array Value}(h:BlkAt w X T cs)(j:Nat)(u:Value)(hu:cs[j]?=some u):w.cell? (aT X j)=some u:=by
 rw[cell_of_row w X j cs T (0,0) h];exact hu
theorem BlkAt.frozen{w:World}{X:Nat}{T:TypeId}{cs:Array Value}(h:BlkAt w X T cs)(j:Nat):w.frozen? (aT X j)=false:=frozen_of_row w X j cs T h
theorem BlkAt.set{w:World}{X:Nat}{T:TypeId}{cs:Array Value}(h:BlkAt w X T cs)(j:Nat)(u:Value):BlkAt (w.setCell ⟨X,j,none⟩ u) X T (cs.setIfInBounds j u):=heap_setCell_same w X j cs T u h
theorem BlkAt.other{w:World}{X Y:Nat}{T:TypeId}{cs:Array Value}(h:BlkAt w X T cs)(hne:X≠Y)(j:Nat)(u:Value):BlkAt (w.setCell ⟨Y,j,none⟩ u) X T cs:=by
 unfold BlkAt;rw[yT _ _ _ _ hne];exact h
theorem BlkAt.lt{w:World}{X:Nat}{T:TypeId}{cs:Array Value}(h:BlkAt w X T cs):X<w.heap.size:=(yk.1 h).1
theorem BlkAt.new(w:World)(X:Nat)(hX:w.heap.size=X)(T:TypeId)(cs:Array Value):BlkAt (w.alloc (.cells cs T)) X T cs:=by subst hX;exact heap_alloc_new w _
theorem BlkAt.alloc{w:World}{X:Nat}{T:TypeId}{cs:Array Value}(h:BlkAt w X T cs)(o:Obj):BlkAt (w.alloc o) X T cs:=by
 unfold BlkAt;rw[yQ _ _ _ h.lt];exact h
theorem BlkAt.below{w w':World}{X:Nat}{T:TypeId}{cs:Array Value}(h:BlkAt w X T cs){B:Nat}(hb:Below B w w')(hX:X<B):BlkAt w' X T cs:=by
 unfold BlkAt;rw[hb.block X hX];exact h
theorem BlkAt.drew{w:World}{X:Nat}{T:TypeId}{cs:Array Value}(h:BlkAt w X T cs):BlkAt w.drew X T cs:=h
def Span(lo hi:Nat)(w w':World):Prop:=∀b,lo<=b->b<hi->w'.heap[b]?=w.heap[b]?
theorem Span.refl(lo hi:Nat)(w:World):Span lo hi w w:=fun _ _ _=>rfl
theorem Span.trans{lo hi:Nat}{a b c:World}(h:Span lo hi a b)(k:Span lo hi b c):Span lo hi a c:=fun x h1 h2=>(k x h1 h2).trans (h x h1 h2)
theorem Span.of_below{lo hi B:Nat}{w w':World}(h:Below B w w')(hB:hi<=B):Span lo hi w w':=fun b _ h2=>h.block b (by omega)
theorem Span.setCell{lo hi:Nat}(w:World){X:Nat}(hX:X<lo\/hi<=X)(j:Nat)(u:Value):Span lo hi w (w.setCell ⟨X,j,none⟩ u):=fun b h1 h2=>
 yT _ _ _ _ (fun e=>by have:b=X:=e;omega)
theorem Span.mono{lo hi lo' hi':Nat}{w w':World}(h:Span lo hi w w')(h1:lo<=lo')(h2:hi'<=hi):Span lo' hi' w w':=fun b a c=>h b (by omega) (by omega)
theorem bcell{W w1:World}(hb:Below W.heap.size W w1):(∀b o,b<W.heap.size->w1.cell? (aT b o)=W.cell? (aT b o))/\(∀b o,b<W.heap.size->w1.frozen? (aT b o)=W.frozen? (aT b o)):=
 ⟨fun b _ h=>yq (hb.block b h),fun b _ h=>yae (hb.block b h)⟩
theorem BlkAt.facts8{w:World}{X:Nat}{T:TypeId}{a0 a1 a2 a3 a4 a5 a6 a7:Value}(h:BlkAt w X T #[a0,a1,a2,a3,a4,a5,a6,a7]):w.cell? (aT X 0)=some a0/\w.cell? (aT X 1)=some a1/\w.cell? (aT X 2)=some a2/\w.cell? (aT X 3)=some a3/\w.cell? (aT X 4)=some a4/\w.cell? (aT X 5)=some a5/\w.cell? (aT X 6)=some a6/\w.cell? (aT X 7)=some a7/\w.frozen? (aT X 0)=false/\w.frozen? (aT X 1)=false/\w.frozen? (aT X 2)=false/\w.frozen? (aT X 3)=false/\w.frozen? (aT X 4)=false/\w.frozen? (aT X 5)=false/\w.frozen? (aT X 6)=false/\w.frozen? (aT X 7)=false:=
 ⟨h.cell 0 _ rfl,h.cell 1 _ rfl,h.cell 2 _ rfl,h.cell 3 _ rfl,h.cell 4 _ rfl,h.cell 5 _ rfl,h.cell 6 _ rfl,h.cell 7 _ rfl,h.frozen 0,h.frozen 1,h.frozen 2,h.frozen 3,h.frozen 4,h.frozen 5,h.frozen 6,h.frozen 7⟩
theorem qec{p:World->Prop}(W:World)(h:∀w1,Hid (w1=W)->p w1):p W:=h W rfl
structure Only (X:Nat) (w w':World):Prop where
 os:w'.os=w.os
 tape:w'.tape=w.tape
 output:w'.output=w.output
 size:w'.heap.size=w.heap.size
 block:∀b,b≠X->w'.heap[b]?=w.heap[b]?
theorem Only.refl(X:Nat)(w:World):Only X w w:=⟨rfl,rfl,rfl,rfl,fun _ _=>rfl⟩
theorem Only.set{X:Nat}{w w':World}(h:Only X w w')(j:Nat)(u:Value):Only X w (w'.setCell ⟨X,j,none⟩ u):=
 ⟨h.os,h.tape,h.output,by simpa using h.size,fun b hb=>(yT _ _ _ _ hb).trans (h.block b hb)⟩
theorem Only.below{X B:Nat}{w w':World}(h:Only X w w')(hB:B<=X):Below B w w':=⟨h.os,h.tape,h.output,by rw[h.size];exact yb _,fun b hb=>h.block b (by omega)⟩
theorem store8{w:World}{X:Nat}{T:TypeId}{x0 x1 x2 x3 x4 x5 x6 x7:Value}(h:BlkAt w X T #[x0,x1,x2,x3,x4,x5,x6,x7])(a0 a1 a2 a3 a4 a5 a6 a7:Value) :
 BlkAt ((((((((w.setCell ⟨X,0,none⟩ a0).setCell ⟨X,1,none⟩ a1).setCell ⟨X,2,none⟩ a2).setCell ⟨X,3,none⟩ a3).setCell ⟨X,4,none⟩ a4).setCell ⟨X,5,none⟩ a5).setCell ⟨X,6,none⟩ a6).setCell ⟨X,7,none⟩ a7) X T #[a0,a1,a2,a3,a4,a5,a6,a7]/\Only X w ((((((((w.setCell ⟨X,0,none⟩ a0).setCell ⟨X,1,none⟩ a1).setCell ⟨X,2,none⟩ a2).setCell ⟨X,3,none⟩ a3).setCell ⟨X,4,none⟩ a4).setCell ⟨X,5,none⟩ a5).setCell ⟨X,6,none⟩ a6).setCell ⟨X,7,none⟩ a7):=by
 have b0:BlkAt _ X T #[a0,x1,x2,x3,x4,x5,x6,x7]:=h.set 0 a0;have b1:BlkAt _ X T #[a0,a1,x2,x3,x4,x5,x6,x7]:=b0.set 1 a1;have b2:BlkAt _ X T #[a0,a1,a2,x3,x4,x5,x6,x7]:=b1.set 2 a2;have b3:BlkAt _ X T #[a0,a1,a2,a3,x4,x5,x6,x7]:=b2.set 3 a3;have b4:BlkAt _ X T #[a0,a1,a2,a3,a4,x5,x6,x7]:=b3.set 4 a4;have b5:BlkAt _ X T #[a0,a1,a2,a3,a4,a5,x6,x7]:=b4.set 5 a5;have b6:BlkAt _ X T #[a0,a1,a2,a3,a4,a5,a6,x7]:=b5.set 6 a6;have b7:BlkAt _ X T #[a0,a1,a2,a3,a4,a5,a6,a7]:=b6.set 7 a7;exact⟨b7,((((((((Only.refl X w).set 0 a0).set 1 a1).set 2 a2).set 3 a3).set 4 a4).set 5 a5).set 6 a6).set 7 a7⟩
theorem qd{w w':World}{base n sz:Nat}{e:TypeId}{v:Value}{xs:List Value}(h:w.ownsRow base e sz v n xs)(hb:∀g,v.ownBlock=some g->w'.heap[g]?=w.heap[g]?):w'.ownsRow base e sz v n xs:=by
 refine⟨h.1,?_⟩;rcases h.2 with h0|⟨g,cap,cur,rfl,hg,hc,rest⟩
 ·exact .inl h0
 ·exact .inr ⟨g,cap,cur,rfl,hg,(hb g rfl).trans hc,rest⟩
theorem qf{w:World}{base base' n:Nat}{v:Value}{xs:List Value}{e:TypeId}{sz:Nat}(h:w.ownsRow base e sz v n xs)(hb:base'<=base):w.ownsRow base' e sz v n xs:=by
 refine⟨h.1,?_⟩;rcases h.2 with h0|⟨g,cap,cur,hv,hg,rest⟩
 ·exact .inl h0
 ·exact .inr ⟨g,cap,cur,hv,by omega,rest⟩
theorem qo{w w':World}{base n sz:Nat}{e:TypeId}{v:Value}{xs:List Value}(h:w.ownsRow base e sz v n xs)(hb:Below w.heap.size w w'):w'.ownsRow base e sz v n xs:=
 qd h fun g hg=>hb.block g (h.lt g hg).2
theorem three(w:World)(o1 o2 o3:Obj):(((w.alloc o1).alloc o2).alloc o3).heap[w.heap.size]?=some o1/\(((w.alloc o1).alloc o2).alloc o3).heap[w.heap.size+1]?=some o2/\(((w.alloc o1).alloc o2).alloc o3).heap[w.heap.size+1+1]?=some o3/\Below w.heap.size w (((w.alloc o1).alloc o2).alloc o3):=by
 have hb:Below w.heap.size w (((w.alloc o1).alloc o2).alloc o3):=(((yi _ _).alloc (yb _) o1).alloc (by simp) o2).alloc (by simp;omega) o3;have s1:(w.alloc o1).heap.size=w.heap.size+1:=by simp
 have s2:((w.alloc o1).alloc o2).heap.size=w.heap.size+1+1:=by simp
 have e1:=heap_alloc_new w o1;have e2:=heap_alloc_new (w.alloc o1) o2;have e3:=heap_alloc_new ((w.alloc o1).alloc o2) o3;rw[s1] at e2;rw[s2] at e3;refine⟨?_,?_,e3,hb⟩
 ·rw[yQ _ _ _ (by omega),yQ _ _ _ (by omega)];exact e1
 ·rw[yQ _ _ _ (by omega)];exact e2
theorem qbo{w:World}{X Y:Nat}{t e:TypeId}{cs ds:Array Value}(h:BlkAt w X t cs)(h':BlkAt w Y e ds)(hne:t≠e):X≠Y:=by
 intro he;subst he;unfold BlkAt at h h';rw[h] at h';injection h' with h';injection h' with _ h'' _;exact hne h''
theorem qp5{w:World}{X Y:Nat}{t:TypeId}{cs:Array Value}(h:BlkAt w X t cs){es:Array MapEntry}{c:Nat}(h':w.heap[Y]?=some (.map es c)):X≠Y:=by
 intro he;subst he;unfold BlkAt at h;rw[h] at h';injection h' with h';cases h'
def full(n:Nat):Int:=2 ^ n - 1
theorem qmp(n:Nat):full (n+1)=2 * full n+1:=by unfold full;rw[Int.pow_succ];omega
theorem qk7{n:Nat}(h:n<=6):0<=full n/\full n<=63:=by
 match n,h with
 |0,_=>decide
 |1,_=>decide
 |2,_=>decide
 |3,_=>decide
 |4,_=>decide
 |5,_=>decide
 |6,_=>decide
theorem qdx(n:Nat)(w:World)(hn:n<=6):Calls Tryz.prog 108 #[J n] w fun e w'=>e=.returned (J (full n))/\w'=w:=by
 match n,hn with
 | 0, _ | 1, _ | 2, _ | 3, _ | 4, _ | 5, _ | 6, _ =>
   go_enter Tryz.func108,Tryz.ntmps108
   go_wp2
   go_ret;exact⟨rfl,rfl⟩
def two(p:Nat):Int:=2 ^ p
end
end Go.Proofs.YtoklolfaemhfnaaGreatDoor
