import Derived.Test.YtoklolfaemhfnaaGreatDoorChecked
import Derived.Test.YtoklolfaemhfnaaGreatDoorZad
import Derived.Test.YtoklolfaemhfnaaGreatDoorZai
set_option maxRecDepth 100000
set_option maxHeartbeats 0
set_option linter.defProp false
open Go.Proofs.Tryz
namespace Go.Cr
section
open Go Go.Pm Go.Proofs
def j0:Ϙ:=[14,15,16,17,18,19,20,25,26,29,30,31,32,34,35,36,37,38,39,40,41,42,43,44,45,46,56,57,58,59,61,62,63,64,65,66,67,68,69,70,71,72,73,74,75,80,82,85,96,97,101,103,104,105,106,107,108,109,110,111,112,113,114,115,116,117,118,119,125,127,135,136,137,138,139,140,141,160,161,162,163,164,165,166,167,168,169,170,171,172,173,174,182,183,184,185,186,192,193,194,195,196,197,198,199,200,201,202,203,204,205,206,207,208,209,210,211,212,213,214,215,233,235,236,237,238,239,240,241,242,243,244,245,246,247,248,249,250,251,252,253,254,255,256,257,258,268,269,270,271,272,273,274,275,276,277,278,279,280,281,282,283,284,285,286,287,288,289,290,293,294,295,296,297,298,299,300,301,302,303,304,305,306]
def fam:Fam:=⟨λf=>j0.contains f,λf=>f==235,2,θ⟩
def CX:(prog.types.all λi=>match i.zero with|some v=>qv v|none=>true)=true:=κ
def Hw:(j0.all λf=>match prog.funcs[f]? with|some fd=>fd.body.isSome&& !(fd.name== "runtime.NumGoroutine")|none=>false)=true:=κ
def CV:(j0.all λf=>f==235||match prog.funcs[f]? with|some fd=>(match fd.body with|some c=>cC prog j0.contains c|none=>false)|none=>false)=true:=κ
def Hx:prog.globals.size=2:=κ
def zH{f:Nat}(h:fam f=true):f∈j0:=by have:j0.contains f=true:=h;simpa using this
def progOk:bL prog fam:=by
 have hfn:∀f,fam f=true→∃fd c,prog.funcs[f]? =some fd∧fd.body=some c∧(fd.name== "runtime.NumGoroutine")=false:=λf hf=>by have:=y5.1 Hw f (zH hf);rcases hx:prog.funcs[f]? with _|fd;rw[hx]at this;cases this;rw[hx]at this;simp only[yB,Bool.not_eq_true']at this;obtain⟨c,hc⟩:=Option.isSome_iff_exists.1 this.1;exact⟨fd,c,rfl,hc,this.2⟩
 refine⟨λt i v hi hz C=>?_,hfn,λf fd c hf hl hfd hb=>?_,λf hf=>?_,Hx.symm⟩;refine CY (λi hi v hv C=>?_) hi v hz C;have:=Ku.1 CX i hi;rw[hv]at this;exact lN C v this;have:=y5.1 CV f (zH hf);have hl':(f==235)=false:=hl;simp only[hfd,hb]at this;rwa [hl',Bool.false_or]at this;obtain⟨fd,c,h1,_⟩:=hfn f hf;exact(yk.1 h1).1
