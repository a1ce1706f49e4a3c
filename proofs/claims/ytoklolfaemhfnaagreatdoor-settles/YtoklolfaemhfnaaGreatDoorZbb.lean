import Derived.WideMake
import Derived.Test.YtoklolfaemhfnaaGreatDoorZba
set_option maxRecDepth 100000
set_option maxHeartbeats 0
set_option linter.defProp false
open Go.Proofs.Tryz
namespace Go.Proofs.Y
section
open Go.RowKit
def zt(b:Int)(w:Δ):ϖ 68 #[J b] w λe f=>ϱ e (.agg #[J b,sN])/\f=w.alloc (.cells #[J b,sN] 95):=by have a:=af.d w _ rfl 95 #[J b,sN];have c:=a.a 0 _ rfl;have d:=a.a 1 _ rfl;simp only[yf,yd,ye]at c d;clear a;go_enter func68,ntmps68;go_wp21;exact bodyPost_ret (by simp[results,results68,go_sem,c,d]) rfl ⟨rfl,rfl⟩
def vR:(prog.info? 69).map (λi=>(i.zero,i.size,i.bytes))=some (some (sN),1,24):=κ
def Ap(n:Nat)(g:n<=6)(u:Δ):(Instr.makeSlice 69 (J n) (J n)).run prog u=.ok (sT u n n) (u.alloc (.cells (ints (List.replicate n 0)).toArray 3)):=by
 obtain⟨d,f,a,b,c⟩:=info_parts Gi;have h:=run_make u 69 3 d (J 0) underlying69 f a .i64 .i64 n _ ω (Ld _) (by rw[c];lia) ω;rw[CM]at h;have e:madeCells (Value.int .i64 0).cells (n*d.size)=(ints (List.replicate n 0)).toArray:=by rw[b,Nat.mul_one];apply Array.ext';rw[show (Value.int .i64 0).cells=#[Value.int .i64 0] from rfl,toList_madeCells_one];simp[ints]
 rw[e]at h;exact h
def EO(n:Nat)(g:n<=6)(u:Δ):(Instr.makeSlice 121 (J n) (J n)).run prog u=.ok (sT u n n) (u.alloc (.cells (Array.replicate n (Value.slice none 0 0)) 69)):=by
 obtain⟨d,f,a,b,c⟩:=info_parts vR;have h:=run_make u 121 69 d (sN) underlying121 f a .i64 .i64 n _ ω (Ld _) (by rw[c];lia) ω;rw[CM]at h;have e:madeCells (Value.slice none 0 0).cells (n*d.size)=(Array.replicate n (Value.slice none 0 0)):=by rw[b,Nat.mul_one];apply Array.ext';rw[show (Value.slice none 0 0).cells=#[Value.slice none 0 0] from rfl,toList_madeCells_one];simp
 rw[e]at h;exact h
