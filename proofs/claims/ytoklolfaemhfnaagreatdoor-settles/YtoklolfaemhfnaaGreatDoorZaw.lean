import Derived.Test.YtoklolfaemhfnaaGreatDoorZal
import Derived.Test.YtoklolfaemhfnaaGreatDoorZav
set_option maxRecDepth 100000
set_option maxHeartbeats 0
set_option linter.defProp false
namespace Go.Cr
section
open Go Go.Conc Go.RowKit Go.Conc.Lib Go.ConcR.Gen Go.ConcN.Gen Go.Proofs
open Go.ConcN (WgLive)
open Go.ConcR (KK wgBlock WgAt stA smA rd wr mk DC0 WgAt.setSt WgAt.setSm)
open Go.Pm (Rely Guar Ev grow)
variable {wL:Δ}{i:Nat}
def CZ:Code->Code
 |.seq _ (.seq _ (.seq (.seq _ (.block _ (.loop c))) _))=>c
 |_=>.skip
def xu:Code->Code
 |.seq _ (.seq _ (.seq _ t))=>t
 |_=>.skip
noncomputable def C0:Code:=CZ (Tryz.f60.body.getD .skip)
noncomputable def C8:Code:=xu (Tryz.f60.body.getD .skip)
structure qY(O K:ϑ)(gb pb ab n pcp cp:Nat)(pv:Nat->Nat)(sv:Nat->Θ)(Bs:Nat->ϑ)(w:Δ):Prop where
 o:O gb
 q:O pb
 l:O ab
 e:n<=6
 m:gb≠ab/\pb≠ab
 g:w.cell? (aT gb 0)=some (sT pb n pcp)
 p:∀i,i<n->w.cell? (aT pb i)=some (.pointer (some ⟨pv i,0,none⟩))
 a:∀i,i<n->w.cell? (aT ab i)=some (sv i)
 f:∀i,i<n->∀b,Bs i b->O b/\b≠gb/\b≠pb/\b≠ab
 d:∀i j,i<n->j<n->i≠j->∀b,Bs i b->¬Bs j b
 c:∀b,O b->b<w.heap.size
 h:∀b,K b->b<w.heap.size
 ok:∀b,O b->¬K b
structure At(O K:ϑ)(ab n cp:Nat)(Bs:Nat->ϑ)(w:Δ)(Wg bx k:Nat)(Ok Kk:ϑ)(wL:Δ):Prop where
 h:∀b,O b->(∀i,i<k->¬Bs i b)->b≠ab->Ok b
 o:Ok ab\/Kk ab
 s:∀b,K b->Kk b
 q:Ok bx\/Kk bx
 t:¬(Ok Wg\/Kk Wg)
 d:∀b,O b->(∀i,i<k->¬Bs i b)->wL.heap[b]?=w.heap[b]?
 f:∀b,K b->wL.heap[b]?=w.heap[b]?
 l:wL.cell? (aT bx 0)=some (sT ab n cp)
 size:w.heap.size<=wL
 u:wL.eo=w.eo
 e:w.heap.size<=bx/\w.heap.size<=Wg/\bx<wL/\Wg<wL/\bx≠Wg
 m:∀b,Ok b->b<w.heap.size->O b/\∀i,i<k->¬Bs i b
 j:∀b,Kk b->b<w.heap.size->K b\/b=ab
section
variable {O K:ϑ}{gb pb ab n pcp cp:Nat}{pv:Nat->Nat}{sv:Nat->Θ}{Bs:Nat->ϑ}{w:Δ}{Wg bx k:Nat}{Ok Kk:ϑ}
def At.c:qq Ok Kk (At O K ab n cp Bs w Wg bx k Ok Kk):=by intro wL wg hs hz ho j;refine⟨j.h,j.o,j.s,j.q,j.t,λb hb hn=>?_,λb hb=>(hs b (.inr (j.s b hb))).trans (j.f b hb),(cU (hs bx j.q) 0).trans j.l,yr j.size hz,ho.trans j.u,⟨j.e.1,j.e.2.1,yg j.e.2.2.1 hz,yg j.e.2.2.2.1 hz,j.e.2.2.2.2⟩,j.m,j.j⟩;by_cases e:b=ab;subst e;exact(hs b j.o).trans (j.d b hb hn);exact(hs b (.inl (j.h b hb hn e))).trans (j.d b hb hn)
def At.g(h:qY O K gb pb ab n pcp cp pv sv Bs w)(j:At O K ab n cp Bs w Wg bx k Ok Kk wL)(hk:k<=n):wL.cell? (aT gb 0)=some (sT pb n pcp):=(cU (j.d gb h.o λi hi hb=>(h.f i ω gb hb).2.1 rfl) 0).trans h.g
def At.p(h:qY O K gb pb ab n pcp cp pv sv Bs w)(j:At O K ab n cp Bs w Wg bx k Ok Kk wL)(hk:k<=n)(hi:i<n):wL.cell? (aT pb i)=some (.pointer (some ⟨pv i,0,none⟩)):=(cU (j.d pb h.q λi hi hb=>(h.f i ω pb hb).2.2.1 rfl) i).trans (h.p i hi)
def At.a(h:qY O K gb pb ab n pcp cp pv sv Bs w)(j:At O K ab n cp Bs w Wg bx k Ok Kk wL)(hk:k<=n)(hi:i<n):wL.cell? (aT ab i)=some (sv i):=(cU (j.d ab h.l λi hi hb=>(h.f i ω ab hb).2.2.2 rfl) i).trans (h.a i hi)
end
