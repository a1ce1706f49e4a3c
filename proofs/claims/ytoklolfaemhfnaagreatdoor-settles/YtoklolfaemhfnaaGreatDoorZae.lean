import Derived.Test.YtoklolfaemhfnaaGreatDoorChecked
import Derived.Conc.WgGenN3
import Derived.Test.YtoklolfaemhfnaaGreatDoorZad
set_option maxRecDepth 100000
set_option maxHeartbeats 0
set_option linter.defProp false
open Go.Proofs.Tryz
namespace Go.Proofs
section
abbrev Tryz.FC:Conc.Lib.WgLink:={add:=98,done:=100,wait:=102,relMerge:=142,disable:=143,enable:=144,inBubble:=145,associate:=146,fatal:=147,uOr:=148,uAdd:=149,raceRead:=150,uLoad:=151,uStore:=152,disassociate:=153,semrelease:=154,acquire:=155,isAssociated:=156,uCas:=157,raceWrite:=158,semacquire:=159,orU64:=187,addU64:=188,loadU64:=189,storeU64:=190,casU64:=191,tWgP:=189,tUP:=191,tAssoc:=192,tWg:=148,tAU:=145,tU64:=143,tUint:=195,tU32:=146,tPU32:=196,tPAU:=225,tPU64:=227,tNoCopy:=140,tANoCopy:=141,tAlign64:=142}
def Tryz.rA:Conc.Lib.WgLib prog Tryz.FC:=
 ⟨func98,func100,func102,func142,func143,func144,func145,func146,func147,func148,func149,func150,func151,func152,func153,func154,func155,func156,func157,func158,func159,func187,func188,func189,func190,func191,underlying189,runUnderlying189,sizeOf189,isAgg189,zeroValue189,underlying191,runUnderlying191,sizeOf191,isAgg191,zeroValue191,underlying192,runUnderlying192,sizeOf192,isAgg192,zeroValue192,underlying148,runUnderlying148,sizeOf148,isAgg148,zeroValue148,underlying145,runUnderlying145,sizeOf145,isAgg145,zeroValue145,underlying143,runUnderlying143,sizeOf143,isAgg143,zeroValue143,underlying195,runUnderlying195,sizeOf195,isAgg195,zeroValue195,underlying146,runUnderlying146,sizeOf146,isAgg146,zeroValue146,underlying196,runUnderlying196,sizeOf196,isAgg196,zeroValue196,underlying225,runUnderlying225,sizeOf225,isAgg225,zeroValue225,underlying227,runUnderlying227,sizeOf227,isAgg227,zeroValue227,underlying0,runUnderlying0,sizeOf0,isAgg0,zeroValue0,underlying3,runUnderlying3,sizeOf3,isAgg3,zeroValue3,underlying4,runUnderlying4,sizeOf4,isAgg4,zeroValue4,underlying9,runUnderlying9,sizeOf9,isAgg9,zeroValue9,underlying20,runUnderlying20,sizeOf20,isAgg20,zeroValue20,underlying21,runUnderlying21,sizeOf21,isAgg21,zeroValue21,κ,κ⟩
