import Derived.Maps.RangeRun
import Derived.WideKeyRuns
import Derived.ChangeMaps4
import Derived.Test.YtoklolfaemhfnaaGreatDoorZau
set_option maxRecDepth 100000
set_option maxHeartbeats 8000000
open Go.Proofs.Tryz (prog)
namespace Go.Proofs.YtoklolfaemhfnaaGreatDoor
section
open Go.RowKit
open Go.ChangeMaps (setBlock)
def keyV(s q:Int):Value:=.agg #[J s,J q]
theorem und186w:(match prog.underlying 186 with|some (.array _ _)|some (.struct _)=>true|_=>false)=true:=by kernel_rfl
theorem part3(w:World)(cs:Array Value)(off:Nat){v:Value}(h:cs[off]?=some v):(part 3 cs off).run prog w=.ok v w:=by
 simp[part,go_sem,h]
theorem equal3(d:Nat)(w:World)(a b:Int):(Op.equalIn (d+1) 3 (J a) (J b)).run prog w=.ok (a == b) w:=by
 unfold Op.equalIn;simp[go_sem]
theorem equal186(w:World)(s q s' q':Int):(Op.equal 186 (keyV s q) (keyV s' q')).run prog w=.ok (s == s' && q == q') w:=by
 have key:∀d,(Op.equalIn (d+1+1) 186 (keyV s q) (keyV s' q')).run prog w=.ok (s == s' && q == q') w:=by
  intro d;have p0:=part3 w #[J s,J q] 0 rfl;have p0':=part3 w #[J s',J q'] 0 rfl;have p1:=part3 w #[J s,J q] 1 rfl;have p1':=part3 w #[J s',J q'] 1 rfl;have e0:=equal3 d w s s';have e1:=equal3 d w q q';unfold Op.equalIn;by_cases h1:s=s' <;> by_cases h2:q=q' <;> simp[go_sem,keyV,h1,h2]
 exact key 9998
theorem check186(w:World)(em:Bool)(s q:Int):(Instr.checkKey em 10000 186 (keyV s q)).run prog w=.ok () w:=by
 have k3:∀n a,(Instr.checkKey em (n+1) 3 (J a)).run prog w=.ok () w:=by
  intro n a;unfold Instr.checkKey;simp[go_sem]
 have key:∀n,(Instr.checkKey em (n+1+1) 186 (keyV s q)).run prog w=.ok () w:=by
  intro n;have p0:=part3 w #[J s,J q] 0 rfl;have p1:=part3 w #[J s,J q] 1 rfl;have e0:=k3 n s;have e1:=k3 n q;unfold Instr.checkKey;simp[go_sem,keyV,e0,e1]
 exact key 9998
structure MapOf (es:Array MapEntry) (clk:Nat) (l:List (Codec.Msg × Value)):Prop where
 key:es.toList.map (·.key)=l.map fun x=>keyV x.1.sender x.1.seq
 val:es.toList.map (·.val)=l.map fun x=>msgV x.1 x.2
 born:(es.toList.map (·.born)).Nodup
 old:∀e∈es.toList,e.born<clk
def isK(s q:Int)(m:Codec.Msg):Bool:=m.sender == s && m.seq == q
theorem qag{s q:Int}{m:Codec.Msg}:isK s q m=true↔m.sender=s/\m.seq=q:=by simp[isK]
def findP(s q:Int):List (Codec.Msg × Value)->Nat->Option (Nat × Value)
 |[],_=>none
 |x::l,i=>if isK s q x.1=true then some (i,msgV x.1 x.2) else findP s q l (i+1)
theorem qg3{s q:Int}:∀{l:List (Codec.Msg × Value)}{i:Nat},(∀x∈l,isK s q x.1=false)->findP s q l i=none
 |[],_,_=>rfl
 | x :: l, i, h => by
   rw[findP,if_neg (by simp[h x (by simp)])];exact qg3 fun y hy=>h y (by simp[hy])
theorem qe2{s q:Int}:∀{l:List (Codec.Msg × Value)}{i:Nat}{x:Codec.Msg × Value},x∈l->isK s q x.1=true->l.Pairwise (fun x y=>isK x.1.sender x.1.seq y.1=false)->∃j,l[j]?=some x/\findP s q l i=some (i+j,msgV x.1 x.2)
 |[],_,x,h,_,_=>by cases h
 | y :: l, i, x, h, hk, hd => by
   rw[ya5] at hd;cases hy:isK s q y.1 with
   | true =>
     have e:y=x:=by
      rcases yF.1 h with rfl|h
      ·rfl
      ·have:=hd.1 x h;rw[qag] at hk hy;simp[isK,hk.1,hk.2,hy.1,hy.2] at this
     subst e;exact⟨0,rfl,by rw[findP,if_pos hy];rfl⟩
   | false =>
     rcases yF.1 h with rfl|h
     ·rw[hk] at hy;cases hy
     ·obtain⟨j,h1,h2⟩:=qe2 (i:=i+1) h hk hd.2;refine⟨j+1,h1,?_⟩;rw[findP,if_neg (by simp[hy]),h2,show i+1+j=i+(j+1) by omega]
theorem find186(w:World)(s q:Int):∀(es:List MapEntry) (l:List (Codec.Msg × Value)) (i:Nat),es.map (·.key)=l.map (fun x=>keyV x.1.sender x.1.seq)->es.map (·.val)=l.map (fun x=>msgV x.1 x.2)->
 (Instr.findAsking 186 (keyV s q) es i).run prog w=.ok (findP s q l i) w
 | [], l, i, hk, _ => by
   cases l with
   |nil=>rfl
   |cons x l=>simp at hk
 |e::es,[],i,hk,_=>by simp at hk
 | e :: es, x :: l, i, hk, hv => by
   simp only[yN,yar] at hk hv;have ih:=find186 w s q es l (i+1) hk.2 hv.2;have he:=equal186 w s q x.1.sender x.1.seq;have hb:(s == x.1.sender && q == x.1.seq)=isK s q x.1:=by
    unfold isK;rw[BEq.comm (a:=s),BEq.comm (a:=q)]
   rw[Instr.findAsking,hk.1,hv.1,Sem.run_bind,he,hb,findP];simp only[Result.andThen];cases h:isK s q x.1
   ·rw[if_neg Bool.false_ne_true,if_neg Bool.false_ne_true];exact ih
   ·rw[if_pos rfl,if_pos rfl];rfl
theorem findK(w:World)(s q:Int){es:Array MapEntry}{clk:Nat}{l:List (Codec.Msg × Value)}(h:MapOf es clk l) :
 (Instr.findKey 186 (keyV s q) es.toList).run prog w=.ok (findP s q l 0) w:=by
 rw[run_findKey_eq w und186w,find186 w s q _ l 0 h.key h.val]
theorem qjo(w:World)(s q:Int){mb:Nat}{es:Array MapEntry}{clk:Nat}{l:List (Codec.Msg × Value)}(hb:w.heap[mb]?=some (.map es clk))(h:MapOf es clk l)(hn:∀x∈l,isK s q x.1=false)(c:Bool) :
 (Instr.lookup 156 (.map (some mb)) (keyV s q) c).run prog w=.ok (if c then .tuple #[.agg #[J 0,J 0,sN,.string ⟨#[]⟩],.bool false] else .agg #[J 0,J 0,sN,.string ⟨#[]⟩]) w:=by
 have hf:=findK w s q h;rw[qg3 hn] at hf;have hc:=fun em=>check186 w em s q;generalize keyV s q=kk at hf hc ⊢;rw[Instr.lookup];simp only[Sem.run_bind,run_underlying Tryz.underlying156,MapKept.run_getObj_map hb,Result.andThen,Sem.run_pure,hc,hf,Tryz.zeroValue179]
theorem qg4(w:World)(s q:Int){mb:Nat}{es:Array MapEntry}{clk:Nat}{l:List (Codec.Msg × Value)}(hb:w.heap[mb]?=some (.map es clk))(h:MapOf es clk l)(hd:l.Pairwise fun x y=>isK x.1.sender x.1.seq y.1=false){x:Codec.Msg × Value}(hx:x∈l)(hk:isK s q x.1=true)(c:Bool) :
 (Instr.lookup 156 (.map (some mb)) (keyV s q) c).run prog w=.ok (if c then .tuple #[msgV x.1 x.2,.bool true] else msgV x.1 x.2) w:=by
 have hf:=findK w s q h;obtain⟨j, -,hj⟩:=qe2 (i:=0) hx hk hd;rw[hj] at hf;have hc:=fun em=>check186 w em s q;generalize keyV s q=kk at hf hc ⊢;generalize msgV x.1 x.2=vv at hf ⊢;rw[Instr.lookup];simp only[Sem.run_bind,run_underlying Tryz.underlying156,MapKept.run_getObj_map hb,Result.andThen,Sem.run_pure,hc,hf]
theorem qm1(w:World)(s q:Int)(v:Value){mb:Nat}{es:Array MapEntry}{clk:Nat}{l:List (Codec.Msg × Value)}(hb:w.heap[mb]?=some (.map es clk))(h:MapOf es clk l)(hn:∀x∈l,isK s q x.1=false) :
 (Instr.mapUpdate 156 (.map (some mb)) (keyV s q) v).run prog w=.ok () (setBlock w mb (.map (es.push { key:=keyV s q,val:=v,born:=clk }) (clk+1))):=by
 have hf:=findK w s q h;rw[qg3 hn] at hf;have hc:=fun em=>check186 w em s q;generalize keyV s q=kk at hf hc ⊢;rw[Instr.mapUpdate];simp only[Sem.run_bind,run_underlying Tryz.underlying156,MapKept.run_getObj_map hb,Result.andThen,hc,hf,MapKept.run_setObj_map _ hb];rfl
theorem qqh(w:World)(s q:Int){mb:Nat}{es:Array MapEntry}{clk:Nat}{l:List (Codec.Msg × Value)}(hb:w.heap[mb]?=some (.map es clk))(h:MapOf es clk l)(hd:l.Pairwise fun x y=>isK x.1.sender x.1.seq y.1=false){x:Codec.Msg × Value}(hx:x∈l)(hk:isK s q x.1=true)(ty:TypeId) :
 ∃j,l[j]?=some x/\(Builtin.delete_ #[156,186] ty #[.map (some mb),keyV s q]).run prog w=.ok (.tuple #[]) (setBlock w mb (.map (es.eraseIdxIfInBounds j) clk)):=by
 have hf:=findK w s q h;obtain⟨j,hjx,hj⟩:=qe2 (i:=0) hx hk hd;rw[hj] at hf;refine⟨j,hjx,?_⟩;have hc:=fun em=>check186 w em s q;generalize keyV s q=kk at hf hc ⊢;rw[Builtin.delete_];simp only[Sem.run_bind,run_underlying Tryz.underlying156,MapKept.run_getObj_map hb,Result.andThen,Sem.run_pure,hc,hf,MapKept.run_setObj_map _ hb,ya7,yak,List.getElem?_cons_succ,yS];rfl
theorem MapOf.put{es:Array MapEntry}{clk:Nat}{l:List (Codec.Msg × Value)}(h:MapOf es clk l)(m:Codec.Msg)(tv:Value):MapOf (es.push { key:=keyV m.sender m.seq,val:=msgV m tv,born:=clk }) (clk+1) (l++[(m,tv)]):=by
 refine⟨by simp[h.key],by simp[h.val],?_,fun e he=>?_⟩
 ·rw[Array.toList_push,y8,yaE];refine⟨h.born,by simp,?_⟩;intro a ha b hb;obtain⟨e,he,rfl⟩:=yW.1 ha;simp at hb;have:=h.old e he;omega
 ·simp only[Array.toList_push,yz,yu] at he;rcases he with he|rfl
  ·exact Nat.lt_succ_of_lt (h.old e he)
  ·exact ybo _
theorem MapOf.length{es:Array MapEntry}{clk:Nat}{l:List (Codec.Msg × Value)}(h:MapOf es clk l):es.size=l.length:=by
 have:=congrArg List.length h.key;simpa using this
theorem MapOf.sub{es:Array MapEntry}{clk:Nat}{l:List (Codec.Msg × Value)}(h:MapOf es clk l)(p:Codec.Msg->Bool)(P:MapEntry->Bool)(hp:∀(i:Nat) (e:MapEntry) (x:Codec.Msg × Value),es.toList[i]?=some e->l[i]?=some x->P e=p x.1){es':Array MapEntry}(he:es'.toList=es.toList.filter P):MapOf es' clk (l.filter fun x=>p x.1):=by
 have key:∀(a:List MapEntry) (b:List (Codec.Msg × Value)),a.map (·.key)=b.map (fun x=>keyV x.1.sender x.1.seq)->a.map (·.val)=b.map (fun x=>msgV x.1 x.2)->(∀(i:Nat) (e:MapEntry) (x:Codec.Msg × Value),a[i]?=some e->b[i]?=some x->P e=p x.1)->
  (a.filter P).map (·.key)=(b.filter fun x=>p x.1).map (fun x=>keyV x.1.sender x.1.seq)/\(a.filter P).map (·.val)=(b.filter fun x=>p x.1).map (fun x=>msgV x.1 x.2):=by
  intro a;induction a with
  | nil =>
    intro b hk _ _;cases b with
    |nil=>exact⟨rfl,rfl⟩
    |cons x b=>simp at hk
  | cons e a ih =>
    intro b hk hv hP;cases b with
    |nil=>simp at hk
    | cons x b =>
      simp only[yN,yar] at hk hv;obtain⟨i1,i2⟩:=ih b hk.2 hv.2 (fun i e x h1 h2=>hP (i+1) e x h1 h2);have h0:=hP 0 e x rfl rfl;rw[List.filter_cons,List.filter_cons,h0];cases p x.1
      ·exact⟨i1,i2⟩
      ·simp only[if_true,yN,hk.1,hv.1,i1,i2,and_self]
 obtain⟨h1,h2⟩:=key _ _ h.key h.val hp;refine⟨by rw[he,h1],by rw[he,h2],?_,fun e hm=>h.old e ?_⟩
 ·rw[he];exact h.born.sublist (List.filter_sublist.map _)
 ·rw[he] at hm;exact(yM.1 hm).1
end
end Go.Proofs.YtoklolfaemhfnaaGreatDoor
