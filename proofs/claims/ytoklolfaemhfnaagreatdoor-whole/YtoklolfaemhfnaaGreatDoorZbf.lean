import Derived.WideMake
import Derived.Test.YtoklolfaemhfnaaGreatDoorZbe
set_option maxRecDepth 100000
set_option maxHeartbeats 8000000
namespace Go.Proofs.YtoklolfaemhfnaaGreatDoor
section
open Go.RowKit
theorem qlm(fl:Int)(w:World):Calls Tryz.prog 68 #[J fl] w fun e w'=>e=.returned (.agg #[J fl,sN])/\w'=w.alloc (.cells #[J fl,sN] 95):=by
 have hPr:=BlkAt.new w w.heap.size rfl 95 #[J fl,sN];have p0:=hPr.cell 0 _ rfl;have p1:=hPr.cell 1 _ rfl;simp only[yf,yd,ye] at p0 p1;clear hPr;go_enter Tryz.func68,Tryz.ntmps68
 go_wp2_with fail
 exact bodyPost_ret (v:=.agg #[J fl,sN]) (by simp[results,Tryz.results68,go_sem,p0,p1]) rfl ⟨rfl,rfl⟩
theorem infoInts:(Tryz.prog.info? 69).map (fun i=>(i.zero,i.size,i.bytes))=some (some (sN),1,24):=by kernel_rfl
theorem qm5(n:Nat)(hn:n<=6)(u:World):(Instr.makeSlice 69 (J n) (J n)).run Tryz.prog u=.ok (sT u.heap.size n n) (u.alloc (.cells (ints (List.replicate n 0)).toArray 3)):=by
 obtain⟨i0,hi,hz0,hz1,hz2⟩:=info_parts infoInt;have h:=run_make (P:=Tryz.prog) u 69 3 i0 (J 0) Tryz.underlying69 hi hz0 .i64 .i64 (n:Int) (n:Int) (by omega) (yaY _) (by rw[hz2];omega) (by omega);rw[yai] at h;have e2:madeCells (Value.int .i64 0).cells (n * i0.size)=(ints (List.replicate n 0)).toArray:=by
  rw[hz1,Nat.mul_one];apply Array.ext';rw[show (Value.int .i64 0).cells=#[Value.int .i64 0] from rfl,toList_madeCells_one];simp[ints]
 rw[e2] at h;exact h
theorem qo2(n:Nat)(hn:n<=6)(u:World):(Instr.makeSlice 121 (J n) (J n)).run Tryz.prog u=.ok (sT u.heap.size n n) (u.alloc (.cells (Array.replicate n (Value.slice none 0 0)) 69)):=by
 obtain⟨i0,hi,hz0,hz1,hz2⟩:=info_parts infoInts;have h:=run_make (P:=Tryz.prog) u 121 69 i0 (sN) Tryz.underlying121 hi hz0 .i64 .i64 (n:Int) (n:Int) (by omega) (yaY _) (by rw[hz2];omega) (by omega);rw[yai] at h;have e2:madeCells (Value.slice none 0 0).cells (n * i0.size)=(Array.replicate n (Value.slice none 0 0)):=by
  rw[hz1,Nat.mul_one];apply Array.ext';rw[show (Value.slice none 0 0).cells=#[Value.slice none 0 0] from rfl,toList_madeCells_one];simp
 rw[e2] at h;exact h
end
end Go.Proofs.YtoklolfaemhfnaaGreatDoor
