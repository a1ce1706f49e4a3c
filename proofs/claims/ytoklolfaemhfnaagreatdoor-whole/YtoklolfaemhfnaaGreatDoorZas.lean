import Derived.Lib.Strings
import Derived.Test.YtoklolfaemhfnaaGreatDoorZar
set_option maxRecDepth 100000
set_option maxHeartbeats 8000000
namespace Go.Proofs.YtoklolfaemhfnaaGreatDoor
section
open Go.RowKit
def RdAt(w:World)(rb:Nat)(l:List UInt8):Prop:=w.cell? (aT rb 0)=some (.string ⟨l.toArray⟩)/\w.frozen? (aT rb 0)=false
def RdTo(w w':World)(rb:Nat)(l:List UInt8):Prop:=RdAt w' rb l/\w.grownBy w' (some rb)
theorem RdTo.refl{w:World}{rb:Nat}{l:List UInt8}(h:RdAt w rb l):RdTo w w rb l:=⟨h,rfl,rfl,rfl,yb _,fun _ _ _=>rfl⟩
theorem RdTo.trans{w w1 w2:World}{rb:Nat}{l l':List UInt8}(h:RdTo w w1 rb l)(k:RdTo w1 w2 rb l'):RdTo w w2 rb l':=
 ⟨k.1,k.2.os.trans h.2.os,k.2.tape.trans h.2.tape,k.2.output.trans h.2.output,yr h.2.size k.2.size,fun b hb hne=>(k.2.block b (yg hb h.2.size) hne).trans (h.2.block b hb hne)⟩
theorem RdTo.size{w w':World}{rb:Nat}{l:List UInt8}(h:RdTo w w' rb l):w.heap.size<=w'.heap.size:=h.2.size
theorem RdTo.cell{w w':World}{rb:Nat}{l:List UInt8}(h:RdTo w w' rb l){a:Addr}{u:Value}(hc:w.cell? a=some u)(hne:a.block≠rb):w'.cell? a=some u:=h.2.cell hc (fun e=>hne (by injection e))
theorem RdTo.frozen{w w':World}{rb:Nat}{l:List UInt8}(h:RdTo w w' rb l){a:Addr}(hb:a.block<w.heap.size)(hne:a.block≠rb):w'.frozen? a=w.frozen? a:=
 yae (h.2.block a.block hb (fun e=>hne (by injection e)))
theorem RdTo.below{w w':World}{rb:Nat}{l:List UInt8}(h:RdTo w w' rb l){B:Nat}(hB:B<=w.heap.size)(hr:B<=rb):Below B w w':=
 (yi B w).grown h.2 hB (fun k e=>by injection e with e;omega)
theorem RdAt.lt{w:World}{rb:Nat}{l:List UInt8}(h:RdAt w rb l):rb<w.heap.size:=yI w ⟨rb,0,none⟩ h.1
theorem RdAt.alloc{w:World}{rb:Nat}{l:List UInt8}(h:RdAt w rb l)(o:Obj):RdAt (w.alloc o) rb l:=by
 have hlt:=h.lt;exact⟨(yq (yQ w o rb hlt)).trans h.1,(yae (a:=(aT rb 0)) (yQ w o rb hlt)).trans h.2⟩
theorem RdTo.alloc{w w':World}{rb:Nat}{l:List UInt8}(h:RdTo w w' rb l)(o:Obj):RdTo w (w'.alloc o) rb l:=
 h.trans ⟨h.1.alloc o,rfl,rfl,rfl,by simp,fun k hk _=>yQ _ _ _ hk⟩
theorem RdTo.grown{w w' w'':World}{rb:Nat}{l:List UInt8}{row:Option Nat}(h:RdTo w w' rb l)(hg:w'.grownBy w'' row)(hrow:∀k,row=some k->w.heap.size<=k/\k≠rb):RdTo w w'' rb l:=by
 have hlt:=h.1.lt;have hb:w''.heap[rb]?=w'.heap[rb]?:=hg.block rb hlt (fun e=>(hrow rb e.symm).2 rfl);refine⟨⟨(yq (a:=(aT rb 0)) hb).trans h.1.1,(yae (a:=(aT rb 0)) hb).trans h.1.2⟩,hg.os.trans h.2.os,hg.tape.trans h.2.tape,hg.output.trans h.2.output,yr h.2.size hg.size,fun b hb hne=>?_⟩;exact(hg.block b (yg hb h.2.size) (fun e=>by have:=(hrow b e.symm).1;omega)).trans (h.2.block b hb hne)
theorem qia(b:UInt8)(r:List UInt8):(⟨(b::r).toArray⟩:ByteArray).extract 1 (r.length+1)=⟨r.toArray⟩:=by
 apply ByteArray.ext;apply Array.ext';rw[Lib.extract_data];simp
theorem qmx(b:UInt8)(r:List UInt8)(h:0<(⟨(b::r).toArray⟩:ByteArray).size):(⟨(b::r).toArray⟩:ByteArray)[0]'h=b:=rfl
theorem qmy(l:List UInt8)(rb:Nat)(w:World)(h:RdAt w rb l)(hl:l.length<=140737488351232) :
 Calls Tryz.prog 200 #[pT rb 0] w fun e w'=>e=.returned (J (Codec.oct l).1)/\RdTo w w' rb (Codec.oct l).2:=by
 obtain⟨h1,h2⟩:=h;cases l with
 | nil =>
   go_enter Tryz.func200,Tryz.ntmps200
   go_wp2
   go_ret;exact⟨rfl,⟨h1,h2⟩,rfl,rfl,rfl,yb _,fun _ _ _=>rfl⟩
 | cons b r =>
   have hlt:rb<w.heap.size:=yI w ⟨rb,0,none⟩ h1;have HW:Hid (wrap64 (b.toNat:Int)=(b.toNat:Int)):=by
    have:=b.toNat_lt;exact IntWalk.wrap64_in _ ⟨by omega,by omega⟩
   go_enter Tryz.func200,Tryz.ntmps200
   go_wp2
   go_ret;refine⟨qbg (by rw[qmx,HW.out];rfl),?_⟩;rw[qia];refine⟨⟨World.cell?_setCell_same _ _ _ h1,?_⟩,rfl,rfl,rfl,by simp,fun k hk hne=>?_⟩
   ·simpa using h2
   ·exact yT _ _ _ _ (fun e=>hne (congrArg some e))
theorem qak(l:List UInt8)(z:Int)(l2:List UInt8)(rb:Nat)(w:World)(hz:Codec.oct l=(z,l2))(h:RdAt w rb l)(hl:l.length<=140737488351232) :
 Calls Tryz.prog 200 #[pT rb 0] w fun e w'=>e=.returned (J z)/\RdTo w w' rb l2:=by
 have:=qmy l rb w h hl;rw[hz] at this;exact this
theorem qh(l:List UInt8):0<=(Codec.oct l).1/\(Codec.oct l).1<256/\(Codec.oct l).2.length<=l.length:=by
 cases l with
 |nil=>simp[Codec.oct]
 |cons b r=>have:=b.toNat_lt;simp[Codec.oct];omega
def words:Nat->List UInt8->Int × List UInt8
 |0,l=>(0,l)
 |t+1,l=>((words t l).1 * 256+(Codec.oct (words t l).2).1,(Codec.oct (words t l).2).2)
theorem qlc(l:List UInt8):words 4 l=Codec.word l:=by simp[words,Codec.word]
theorem qq4(a b:Nat)(ha:a<4294967296)(hb:b<256):bits .or .i64 (a:Int) (b:Int)=((a ||| b:Nat):Int):=by
 have hx:a ||| b<2 ^ 32:=Nat.or_lt_two_pow (by omega) (by omega);show IntKind.i64.wrap ((BitVec.ofInt 64 (a:Int) ||| BitVec.ofInt 64 (b:Int)).toNat:Int)=_;rw[BitVec.toNat_or,BitVec.ofInt_natCast,BitVec.ofInt_natCast,BitVec.toNat_ofNat,BitVec.toNat_ofNat,Nat.mod_eq_of_lt (by omega),Nat.mod_eq_of_lt (by omega)];simp[IntKind.wrap,IntKind.bits,IntKind.signed];omega
theorem qqc(y x:Int)(hy0:0<=y)(hy:y<16777216)(hx0:0<=x)(hx:x<256):bits .or .i64 (y * 256) x=y * 256+x:=by
 obtain⟨Y,rfl⟩:=yal hy0;obtain⟨X,rfl⟩:=yal hx0;have h:=qq4 (Y * 256) X (by omega) (by omega);have e:Y * 256 ||| X=Y * 256+X:=by
  have:=Nat.shiftLeft_add_eq_or_of_lt (i:=8) (show X<2 ^ 8 by omega) Y;rw[Nat.shiftLeft_eq] at this;exact this.symm
 have c:((Y:Int) * 256)=((Y * 256:Nat):Int):=by omega
 rw[c];refine h.trans ?_;rw[e];omega
theorem qos(l:List UInt8)(rb:Nat)(w:World)(h:RdAt w rb l)(hl:l.length<=140737488351232) :
 Calls Tryz.prog 201 #[pT rb 0] w fun e w'=>e=.returned (J (Codec.word l).1)/\RdTo w w' rb (Codec.word l).2:=by
 have HW:Hid (words 4 l=Codec.word l):=qlc l;generalize Codec.word l=r at HW ⊢;go_enter Tryz.func201,Tryz.ntmps201
 go_wp2
 go_loopw [3,4] (fun x i wr=>∃(t:Nat) (y:Int) (l':List UInt8),t<=4/\i=J t/\x=J y/\0<=y/\Hid (y<256 ^ t)/\Hid (words t l=(y,l'))/\l'.length<=140737488351232/\RdTo w wr rb l') (fun _ i _=>4 - (intOf i).toNat)
 case atStart=>exact⟨0,0,l,by omega,rfl,rfl,by omega,by show (0:Int)<256 ^ 0;decide,rfl,hl,RdTo.refl h⟩
 case round=>
  obtain⟨t,y,l',ht,rfl,rfl,hy0,HY,HL,hl',hrd⟩:=hrel;have hob:=qh l';by_cases hlt:t<4
  ·have hy:y<16777216:=by
    have h1:t=0\/t=1\/t=2\/t=3:=by omega
    have:=HY.out;rcases h1 with rfl|rfl|rfl|rfl <;> simp at this <;> omega
   obtain⟨z,l2,hzl⟩:∃z l2,Codec.oct l'=(z,l2):=⟨_,_,rfl⟩;have HS:Hid (words (t+1) l=(y * 256+z,l2)):=by show _=_;rw[words,HL.out,hzl]
   rw[hzl] at hob;obtain⟨hz0,hz1,hz2⟩:=hob;simp only at hz0 hz1 hz2;have HY2:Hid (y * 256+z<256 ^ (t+1)):=by
    show _<_;rw[Int.pow_succ];have:=HY.out;omega
   have HO:Hid (_=_):=qqc y z hy0 hy hz0 hz1;have HZ:Hid (_=_):=hzl;clear hzl;go_wp2_with fail
   refine(qak l' z l2 rb _ HZ.out hrd.1 hl').mono ?_;rintro e w2 ⟨rfl,hr2⟩;go_wp2
   go_roundw
   case rel=>
    exact⟨t+1,y * 256+z,l2,by omega,by go_num,by rw[HO.out],by omega,HY2,HS,by omega,hrd.trans hr2⟩
   case measure=>simp[intOf];omega
  ·have ht4:t=4:=by omega
   subst ht4;go_wp2
   go_ret;exact⟨qbg (by rw[<-HW.out,HL.out]),by rw[<-HW.out,HL.out];exact hrd⟩
theorem qmz{m:Nat}{l l2:List UInt8}{z:Int}(h:Codec.oct l=(z,l2)):Codec.octs (m+1) l=(z::(Codec.octs m l2).1,(Codec.octs m l2).2):=by
 rw[Codec.octs,h]
theorem qji(m:Nat):∀l:List UInt8,(Codec.octs m l).1.length=m:=by
 induction m with
 |zero=>intro l;rfl
 |succ m ih=>intro l;simp[Codec.octs,ih]
theorem qqd(w:World)(H:Nat)(hH:w.heap.size=H)(x:Int):∀j u,[Value.int .i64 x][j]?=some u->(w.alloc (.cells #[J x] 3)).cell? ((⟨H,0,none⟩:Addr).add j)=some u:=by
 subst hH;intro j u hj;match j,hj with
 |0,hj=>simp at hj;subst hj;simp[Addr.add]
theorem qqe(x:Int):∀u∈[Value.int .i64 x],u.oneCell'=true:=by
 intro u hu;simp at hu;subst hu;rfl
theorem qg0(l l2:List UInt8)(zs:List Int)(rb:Nat)(w:World)(hz:Codec.nums l=(zs,l2))(h:RdAt w rb l)(hl:l.length<=140737488351232) :
 Calls Tryz.prog 202 #[pT rb 0] w fun e w'=>∃v,e=.returned v/\w'.ownsRow w.heap.size 3 1 v zs.length (ints zs)/\RdTo w w' rb l2:=by
 obtain⟨i0,hi,hz0,hz1,hz2⟩:=info_parts info3;obtain⟨n,l1,hn⟩:∃n l1,Codec.oct l=(n,l1):=⟨_,_,rfl⟩;have hob:=qh l;rw[hn] at hob;obtain⟨hn0,hn1,hn2⟩:=hob;simp only at hn0 hn1 hn2;have hz':Codec.octs n.toNat l1=(zs,l2):=by rw[<-hz,Codec.nums,hn]
 obtain⟨n,rfl⟩:=yal hn0;rw[yai] at hz';have HZ:Hid (Codec.octs n l1=(zs,l2)):=hz';have HN:Hid (_=_):=hn;have hrlt:=h.lt;clear hz hz' hn hn0;go_enter Tryz.func202,Tryz.ntmps202
 go_wp2_with fail
 refine(qak l _ l1 rb _ HN.out h hl).mono ?_;rintro e w1 ⟨rfl,hr1⟩;have hs1:=hr1.size;go_wp2
 go_loopw [3,6] (fun v i wr=>∃(k:Nat) (acc:List Int) (l':List UInt8),k<=n/\i=J k/\acc.length=k/\l'.length<=140737488351232/\Hid (Codec.octs n l1=(acc++(Codec.octs (n - k) l').1,(Codec.octs (n - k) l').2))/\wr.ownsRow w.heap.size 3 1 v k (ints acc)/\RdTo w wr rb l') (fun _ i _=>n - (intOf i).toNat)
 case atStart=>exact⟨0,[],l1,by omega,rfl,rfl,by omega,by show _=_;simp,y9 _ _ _ _,hr1⟩
 case round=>
  obtain⟨k,acc,l',hk,rfl,hacc,hl',HL,hown,hrd⟩:=hrel;have hsz:=hrd.size;by_cases hlt:k<n
  ·obtain⟨z,l3,hzl⟩:∃z l3,Codec.oct l'=(z,l3):=⟨_,_,rfl⟩;have hob:=qh l';rw[hzl] at hob;obtain⟨hz0',hz1',hz2'⟩:=hob;simp only at hz0' hz1' hz2';have HS:Hid (Codec.octs n l1=((acc++[z])++(Codec.octs (n - (k+1)) l3).1,(Codec.octs (n - (k+1)) l3).2)):=by
    show _=_;rw[HL.out,show n - k=(n - (k+1))+1 from by omega,qmz hzl];simp
   have HZ2:Hid (_=_):=hzl;have HV:Hid (∀k,u3.ownBlock=some k->w.heap.size<=k/\k≠rb):=fun k hk=>by have:=(hown.lt k hk).1;exact⟨this,by omega⟩
   have HACC:Hid (_=_):=hacc;clear hzl hacc;go_wp2_with fail
   refine(qak l' z l3 rb _ HZ2.out hrd.1 hl').mono ?_;rintro e w2 ⟨rfl,hr2⟩;have hs2:=hr2.size;have hown2:w2.ownsRow w.heap.size 3 1 u3 k (ints acc):=hown.kept hr2.2 (by
    rcases ho:u3.ownBlock with _|g
    ·exact .inl rfl
    ·right;intro e;injection e with e;exact(HV.out g ho).2 e)
   have hrd2:=hrd.trans hr2;clear hown hrd;go_wp2_with (at_builtin;refine wpList_append_own _ rfl _ _ 69 rfl w.heap.size 3 i0 (J 0) 1 8 Tryz.underlying69 hi hz0 hz1 hz2 rfl (by decide) _ _ _ rfl (hown2.alloc _) (aT w2.heap.size 0) 1 1 [J z] rfl rfl (qqd _ _ rfl _) (qqe _) ?c3 ?c4 ?c5 ?_)
   case c3=>unfold maxLen;omega
   case c4=>omega
   case c5=>simp;omega
   intro v' w3 hown' hgrow _;rw[qmq] at hown';have hrd3:=(hrd2.alloc (.cells #[J z] 3)).grown hgrow HV.out;go_wp2
   go_roundw
   case rel=>exact⟨k+1,acc++[z],l3,by omega,by go_num,by simp[HACC.out],by omega,HS,hown',hrd3⟩
   case measure=>simp[intOf];omega
  ·have hkn:k=n:=by omega
   subst hkn;have e1:=HZ.out.symm.trans HL.out;rw[Nat.sub_self] at e1;simp only[Codec.octs,ya0,yau] at e1;obtain⟨e1,e2⟩:=e1;have HE1:Hid (_=_):=e1;have HE2:Hid (_=_):=e2;have HACC:Hid (_=_):=hacc;clear e1 e2 hacc;go_wp2
   go_ret;exact⟨_,rfl,by rw[HE1.out,HACC.out];exact hown,by rw[HE2.out];exact hrd⟩
end
end Go.Proofs.YtoklolfaemhfnaaGreatDoor
