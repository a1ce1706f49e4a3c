import Derived.Maps.RangeWalk
import Derived.Test.YtoklolfaemhfnaaGreatDoorZav
import Derived.Test.YtoklolfaemhfnaaGreatDoorZax
set_option maxRecDepth 100000
set_option maxHeartbeats 8000000
open Go.Proofs.Tryz (prog)
namespace Go.Proofs.YtoklolfaemhfnaaGreatDoor
section
open Go.RowKit
structure Hd where
 num:Nat
 n:Nat
 win:Nat
 crashed:Bool
 out:Bool
 blocked:Bool
 view:Int
 members:Int
 suspects:Int
 promised:Int
 vb:Int
 vm:Int
 vcut:Value
 lead:Value
 left:Value
def Hd.cells(h:Hd)(kv mv ev sv:Value):Array Value:=#[J h.num,J h.n,J h.win,.bool h.crashed,.bool h.out,.bool h.blocked,J h.view,J h.members,J h.suspects,J h.promised,J h.vb,J h.vm,h.vcut,h.lead,kv,mv,h.left,ev,sv]
structure KnownAt (w:World) (n kb:Nat) (rbs:List Nat) (kn:List (List Int)):Prop where
 len:rbs.length=n
 klen:kn.length=n
 nodup:rbs.Nodup
 top:BlkAt w kb 69 (rbs.map fun r=>Value.slice (some ⟨r,0,none⟩) n n).toArray
 rows:∀(q r:Nat) (l:List Int),rbs[q]?=some r->kn[q]?=some l->l.length=n/\BlkAt w r 3 (ints l).toArray
theorem KnownAt.kept{w w':World}{n kb:Nat}{rbs:List Nat}{kn:List (List Int)}(h:KnownAt w n kb rbs kn)(hk:w'.heap[kb]?=w.heap[kb]?)(hr:∀r∈rbs,w'.heap[r]?=w.heap[r]?):KnownAt w' n kb rbs kn:=
 ⟨h.len,h.klen,h.nodup,hk.trans h.top,fun q r l h1 h2=>⟨(h.rows q r l h1 h2).1,(hr r (yy h1)).trans (h.rows q r l h1 h2).2⟩⟩
theorem KnownAt.lt{w:World}{n kb:Nat}{rbs:List Nat}{kn:List (List Int)}(h:KnownAt w n kb rbs kn):kb<w.heap.size/\∀r∈rbs,r<w.heap.size:=by
 refine⟨h.top.lt,fun r hr=>?_⟩;obtain⟨q,hq,rfl⟩:=y4 hr;have:q<kn.length:=by rw[h.klen,<-h.len];exact hq
 exact(h.rows q _ _ (yh hq) (yh this)).2.lt
theorem KnownAt.below{w w':World}{n kb:Nat}{rbs:List Nat}{kn:List (List Int)}(h:KnownAt w n kb rbs kn)(hb:Below w.heap.size w w'):KnownAt w' n kb rbs kn:=
 h.kept (hb.block kb h.lt.1) fun r hr=>hb.block r (h.lt.2 r hr)
def hasB(set:Int)(q:Nat):Bool:=decide (set / 2 ^ q % 2=1)
def stableB(members:Int)(kn:List (List Int))(s:Nat)(q:Int):Bool:=(List.range kn.length).all fun i=>!(hasB members i && decide ((kn.getD i []).getD s 0<q))
theorem qou(n:Int):bits .and .i64 n 1=n % 2:=by
 have h127:(BitVec.ofInt 64 1).toNat=2 ^ 1 - 1:=by decide
 have key:(BitVec.ofInt 64 n &&& BitVec.ofInt 64 1).toNat=(n % ((2 ^ 64:Nat):Int)).toNat % 2 ^ 1:=by
  rw[BitVec.toNat_and,BitVec.toNat_ofInt,h127,Nat.and_two_pow_sub_one_eq_mod]
 show IntKind.i64.wrap ((BitVec.ofInt 64 n &&& BitVec.ofInt 64 1).toNat:Nat)=n % 2;rw[key,yat];omega
theorem qe3(set:Int)(q:Nat)(w:World)(hq:q<=63):Calls prog 173 #[J set,J q] w fun e w'=>e=.returned (.bool (hasB set q))/\w'=w:=by
 have hq0:(0:Int)<=(q:Int):=by omega
 have hand:=qou;go_enter Tryz.func173,Tryz.ntmps173
 go_wp2
 go_ret;exact⟨qg (by unfold hasB;rw[Bool.eq_iff_iff];simp),rfl⟩
theorem qq6(b kb:Nat)(h:Hd)(mv ev sv:Value)(rbs:List Nat)(kn:List (List Int))(w:World)(hb:BlkAt w b 159 (h.cells (sT kb h.n h.n) mv ev sv))(hk:KnownAt w h.n kb rbs kn)(r:Nat)(hr:rbs[h.num]?=some r) :
 Calls prog 119 #[pT b 0] w fun e w'=>e=.returned (sT r h.n h.n)/\∃m,w'=w.drewN m:=by
 have hp:h.num<h.n:=by rw[<-hk.len];exact(ym.1 hr).1
 have c0:=hb.cell 0 _ rfl;have c14:=hb.cell 14 _ rfl;have ck:w.cell? (aT kb h.num)=some (sT r h.n h.n):=hk.top.cell _ _ (by simp[hr]);simp only[Hd.cells,yf,yd,ye] at c0 c14;have hp0:(0:Int)<=(h.num:Int):=Int.natCast_nonneg _;have hp1:(h.num:Int)<(h.n:Int):=by omega
 clear hb hk hr;go_enter Tryz.func119,Tryz.ntmps119
 go_wp2
 go_quiet (fail)
 go_wp2
 go_ret;exact⟨rfl,_,rfl⟩
theorem qe4(b:Nat)(h:Hd)(kv mv ev sv:Value)(w:World)(hb:BlkAt w b 159 (h.cells kv mv ev sv))(hc:h.crashed=false)(ho:h.out=false) :
 Calls prog 105 #[pT b 0] w fun e w'=>e=.returned (J 0)/\w'=w:=by
 have c3:=hb.cell 3 _ rfl;have c4:=hb.cell 4 _ rfl;simp only[Hd.cells,yf,yd,ye,hc,ho] at c3 c4;clear hb;go_enter Tryz.func105,Tryz.ntmps105
 go_wp2
 go_ret;exact⟨rfl,rfl⟩
theorem qed(m:Codec.Msg)(tv:Value)(w:World):Calls prog 139 #[msgV m tv] w fun e w'=>e=.returned (keyV m.sender m.seq)/\Below w.heap.size w w':=by
 unfold msgV keyV;go_enter Tryz.func139,Tryz.ntmps139
 go_wp2
 exact bodyPost_ret (v:=.agg #[J m.sender,J m.seq]) (by simp[results,Tryz.results139,go_sem]) rfl ⟨rfl,((yi _ _).alloc (yb _) _).alloc (by simp) _⟩
theorem KnownAt.cells{w:World}{n kb:Nat}{rbs:List Nat}{kn:List (List Int)}(h:KnownAt w n kb rbs kn){k:Nat}(hk:k<n):∃r,rbs[k]?=some r/\w.cell? (aT kb k)=some (sT r n n)/\∀s,s<n->w.cell? (aT r s)=some (J ((kn.getD k []).getD s 0)):=by
 have h1:k<rbs.length:=by rw[h.len];exact hk
 have h2:k<kn.length:=by rw[h.klen];exact hk
 obtain⟨e1,e2⟩:=h.rows k rbs[k] kn[k] (yh h1) (yh h2);refine⟨rbs[k],yh h1,h.top.cell _ _ (by simp[h1]),fun s hs=>e2.cell s _ ?_⟩;have h3:s<kn[k].length:=by rw[e1];exact hs
 simp[ints,List.getD,List.getElem?_eq_getElem h2,List.getElem?_eq_getElem h3]
theorem qb0{members:Int}{kn:List (List Int)}{s:Nat}{q:Int}:stableB members kn s q=true↔∀i,i<kn.length->(hasB members i && decide ((kn.getD i []).getD s 0<q))=false:=by
 unfold stableB;rw[y5];constructor
 ·intro h i hi;have:=h i (by simpa using hi);cases hx:(hasB members i && decide ((kn.getD i []).getD s 0<q))
  ·rfl
  ·rw[hx] at this;cases this
 ·intro h i hi;rw[h i (by simpa using hi)];rfl
theorem qe5(b kb:Nat)(h:Hd)(mv ev sv:Value)(rbs:List Nat)(kn:List (List Int))(w:World)(hb:BlkAt w b 159 (h.cells (sT kb h.n h.n) mv ev sv))(hk:KnownAt w h.n kb rbs kn)(hn:h.n<=6)(s:Nat)(hs:s<h.n)(q:Int) :
 Calls prog 186 #[pT b 0,keyV s q] w fun e w'=>e=.returned (.bool (stableB h.members kn s q))/\Below w.heap.size w w':=by
 have HB:Hid (∀w',Below w.heap.size w w'->w'.cell? (aT b 7)=some (J h.members)/\w'.cell? (aT b 14)=some (sT kb h.n h.n)):=fun w' hw=>⟨(hb.below hw hb.lt).cell 7 _ rfl,(hb.below hw hb.lt).cell 14 _ rfl⟩;have HK:Hid (∀w',Below w.heap.size w w'->KnownAt w' h.n kb rbs kn):=fun w' hw=>hk.below hw;have hlen:=hk.klen;have hrl:=hk.len;clear hb hk;unfold keyV;obtain⟨c7,c14⟩:=HB.out (w.alloc (.cells #[J s,J q] 186)) ((yi _ _).alloc (yb _) _);go_enter Tryz.func186,Tryz.ntmps186
 go_wp2_with fail
 go_loopw [12] (fun i wr=>∃k:Nat,k<=h.n/\i=J k/\(∀j,j<k->(hasB h.members j && decide ((kn.getD j []).getD s 0<q))=false)/\Below (w.heap.size+1) (w.alloc (.cells #[J s,J q] 186)) wr) (fun i _=>h.n - (intOf i).toNat)
 case atStart=>exact⟨0,by omega,rfl,by omega,yi _ _⟩
 case round=>
  obtain⟨k,hk,rfl,hall,hbel⟩:=hrel;have hw:Below w.heap.size w wr:=((yi _ _).alloc (yb _) _).trans (hbel.mono (by omega));obtain⟨c7,c14⟩:=HB.out wr hw;have KA:=HK.out wr hw;have hbox:BlkAt wr w.heap.size 186 #[J s,J q]:=(BlkAt.new w w.heap.size rfl 186 _).below hbel (by omega);have d0:wr.cell? (aT w.heap.size 0)=some (J s):=hbox.cell 0 _ rfl;have d1:wr.cell? (aT w.heap.size 1)=some (J q):=hbox.cell 1 _ rfl;by_cases hlt:k<h.n
  ·obtain⟨r,hr,ck,crow⟩:=KA.cells hlt;have cr:=crow s hs;have hlt1:(k:Int)<(h.n:Int):=by omega
   have hs0:(0:Int)<=(s:Int):=by omega
   have hs1:(s:Int)<(h.n:Int):=by omega
   clear crow KA hbox;have HN:Hid (∀{x:Bool},(hasB h.members k && decide ((kn.getD k []).getD s 0<q))=x->x=false->∀j,j<k+1->(hasB h.members j && decide ((kn.getD j []).getD s 0<q))=false):=fun {x} hx h0 j hj=>by
    rcases yaS.1 hj with hj|rfl
    ·exact hall j hj
    ·rw[hx,h0]
   cases hh:hasB h.members k with
   | false =>
     rw[hh] at HN;clear hall;go_wp2_with fail
     go_quiet ((go_at_call 173;exact Calls.quiet_of_same ((qe3 _ _ _ (by omega)).mono (fun e w' h=>by rw[hh] at h;exact h))))
     go_wp2_with fail
     go_roundw
     case rel=>exact⟨k+1,by omega,by go_num,HN.out rfl rfl,below_drewN hbel _⟩
     case measure=>simp[intOf];omega
   | true =>
     rw[hh] at HN;have HF:Hid ((kn.getD k []).getD s 0<q->false=stableB h.members kn s q):=fun hx=>by
      cases hst:stableB h.members kn s q
      ·rfl
      ·have:=qb0.1 hst k (by omega);rw[hh,decide_eq_true hx] at this;cases this
     generalize (kn.getD k []).getD s 0=x at HN HF cr;clear hall;by_cases hx:x<q
     ·have hxd:decide (x<q)=true:=decide_eq_true hx;go_wp2_with fail
      go_quiet ((go_at_call 173;exact Calls.quiet_of_same ((qe3 _ _ _ (by omega)).mono (fun e w' h=>by rw[hh] at h;exact h))))
      go_wp2_with fail
      go_ret;exact⟨qg (HF.out hx),below_drewN hw _⟩
     ·have hxd:decide (x<q)=false:=decide_eq_false hx;go_wp2_with fail
      go_quiet ((go_at_call 173;exact Calls.quiet_of_same ((qe3 _ _ _ (by omega)).mono (fun e w' h=>by rw[hh] at h;exact h))))
      go_wp2_with fail
      go_roundw
      case rel=>exact⟨k+1,by omega,by go_num,HN.out rfl (by simp[hx]),below_drewN hbel _⟩
      case measure=>simp[intOf];omega
  ·have hx:k=h.n:=by omega
   have hge:¬(k:Int)<(h.n:Int):=by omega
   go_wp2_with fail
   go_ret;exact⟨qg (qb0.2 (fun i hi=>hall i (by omega))).symm,hw⟩
end
section
open Go.RowKit
open Go.ChangeMaps (setBlock)
structure Ranging (w:World) (mb r:Nat) (es:Array MapEntry) (clk:Nat) (seen:Array Nat):Prop where
 map:w.heap[mb]?=some (.map es clk)
 it:w.heap[r]?=some (.mapIter (some mb) clk seen clk)
 old:∀e∈es.toList,e.born<clk
 born:(es.toList.map (·.born)).Nodup
theorem Ranging.kept{w w':World}{mb r:Nat}{es:Array MapEntry}{clk:Nat}{seen:Array Nat}(h:Ranging w mb r es clk seen)(hb:Below w.heap.size w w'):Ranging w' mb r es clk seen:=
 ⟨(hb.block mb (yk.1 h.map).1).trans h.map,(hb.block r (yk.1 h.it).1).trans h.it,h.old,h.born⟩
def toCome(w:World)(mb r:Nat):Nat:=
 match w.heap[mb]?,w.heap[r]? with
 |some (.map es _),some (.mapIter _ _ seen _)=>(leftOf es seen).size
 |_,_=>0
theorem Ranging.toCome{w:World}{mb r:Nat}{es:Array MapEntry}{clk:Nat}{seen:Array Nat}(h:Ranging w mb r es clk seen):toCome w mb r=(leftOf es seen).size:=by
 unfold YtoklolfaemhfnaaGreatDoor.toCome;rw[h.map,h.it]
theorem qca{es:Array MapEntry}{seen:Array Nat}{e:MapEntry}(he:e∈es.toList)(hs:seen.contains e.born=false):(leftOf es (seen.push e.born)).size<(leftOf es seen).size:=by
 exact left_shrinks es seen e (by unfold leftOf;rw[Array.toList_filter,yM];exact⟨he,by rw[hs];rfl⟩)
section
variable {P:Program}(w:World){ops:Array Oper}{rest:List Oper}{o:Oper}{a:Act}{Q:Exit->Act->World->Prop}
theorem qaq(hg:o.guard=none)(it:Operand)(hop:o.op=Op.next it false)(mb r:Nat){es:Array MapEntry}{clk:Nat}{seen:Array Nat}(hit:a.eval it=pT r 0)(h:Ranging w mb r es clk seen)
 (hDone:(leftOf es seen).size=0->wpList P ops Q rest (a.put o.dst (.tuple #[.bool false])) w)
 (hMore:∀(e:MapEntry) (w':World),e∈es.toList->seen.contains e.born=false->Ranging w' mb r es clk (seen.push e.born)->w.grownBy w' (some r)->w'.heap.size=w.heap.size->
  (Instr.entry (pT r 0)).run P w'=.ok (.tuple #[e.key,e.val]) w'->wpList P ops Q rest (a.put o.dst (.tuple #[.bool true,e.key,e.val])) w'):wpList P ops Q (o::rest) a w:=by
 refine wpList_plain hg fun K' hK'=>?_;unfold Oper.wp;rcases run_next_at (P:=P) w o.type r mb clk clk seen es clk h.it h.map h.old (yb _) with ⟨h0,hrun⟩|⟨e,he,w1,hw1,hrun⟩
 ·simp[execOp,hop,hit,hrun,Result.andThen];exact hK' _ _ (hDone h0)
 ·simp[execOp,hop,hit,hrun,Result.andThen];unfold leftOf at he;rw[Array.toList_filter,yM] at he;have hne:mb≠r:=by
   rintro rfl;have:=h.map.symm.trans h.it;cases this
  have hit1:w1.heap[r]?=some (.mapIter (some mb) clk seen clk):=by rcases hw1 with rfl|rfl <;> exact h.it
  have hlt:r<w1.heap.size:=(yk.1 hit1).1;have R':Ranging (setBlock w1 r (.mapIter (some mb) clk (seen.push e.born) clk)) mb r es clk (seen.push e.born):=by
   refine⟨?_,?_,h.old,h.born⟩
   ·show (w1.heap.setIfInBounds r _)[mb]?=_;rw[yP (fun e=>hne e.symm)];rcases hw1 with rfl|rfl <;> exact h.map
   ·show (w1.heap.setIfInBounds r _)[r]?=_;rw[yR hlt]
  refine hK' _ _ (hMore e _ he.1 (by simpa using he.2) R' ?_ ?_ (run_entry_at _ r mb clk seen es clk e R'.it R'.map he.1 h.born))
  ·refine⟨?_,?_,?_,?_,fun i hi hne'=>?_⟩
   ·rcases hw1 with rfl|rfl <;> rfl
   ·rcases hw1 with rfl|rfl <;> rfl
   ·rcases hw1 with rfl|rfl <;> rfl
   ·show w.heap.size<=(w1.heap.setIfInBounds r _).size;rcases hw1 with rfl|rfl <;> simp
   ·show (w1.heap.setIfInBounds r _)[i]?=_;rw[yP (fun e=>hne' (by rw[e]))];rcases hw1 with rfl|rfl <;> rfl
  ·show (w1.heap.setIfInBounds r _).size=_;rcases hw1 with rfl|rfl <;> simp
theorem qal(hg:o.guard=none)(m:Operand)(t k e:TypeId)(hop:o.op=Op.range t m)(ht:P.underlying t=some (.map k e)){mb:Nat}{es:Array MapEntry}{clk:Nat}(hm:a.eval m=.map (some mb))(hb:w.heap[mb]?=some (.map es clk))(hold:∀e∈es.toList,e.born<clk)(hborn:(es.toList.map (·.born)).Nodup)
 (hK:Ranging (w.alloc (.mapIter (some mb) clk #[] clk)) mb w.heap.size es clk #[]->wpList P ops Q rest (a.put o.dst (pT w.heap.size 0)) (w.alloc (.mapIter (some mb) clk #[] clk))):wpList P ops Q (o::rest) a w:=by
 refine wpList_plain hg fun K' hK'=>?_;unfold Oper.wp;have hrun:(Instr.range t (.map (some mb))).run P w=.ok (pT w.heap.size 0) (w.alloc (.mapIter (some mb) clk #[] clk)):=by
  simp only[Instr.range,Sem.run_bind,run_underlying ht,Result.andThen,MapKept.run_getObj_map hb];rfl
 simp[execOp,hop,hm,hrun,Result.andThen];exact hK' _ _ (hK ⟨by rw[yQ _ _ _ (yk.1 hb).1];exact hb,heap_alloc_new w _,hold,hborn⟩)
end
abbrev Msgs:=List (Codec.Msg × Value)
def qrj(l:Msgs):Prop:=l.Pairwise fun x y=>isK x.1.sender x.1.seq y.1=false
theorem qrj.same{l:Msgs}(h:qrj l){i j:Nat}{x:Codec.Msg × Value}(hi:l[i]?=some x)(hj:l[j]?=some x):i=j:=by
 obtain⟨h1,e1⟩:=ym.1 hi;obtain⟨h2,e2⟩:=ym.1 hj;rcases yaX i j with hlt|rfl|hlt
 ·have:=ya8.1 h i j h1 h2 hlt;rw[e1,e2] at this;simp[isK] at this
 ·rfl
 ·have:=ya8.1 h j i h2 h1 hlt;rw[e1,e2] at this;simp[isK] at this
theorem qa9{α β:Type}(f:α->β):∀(l:List α) (i:Nat),(l.eraseIdx i).map f=(l.map f).eraseIdx i
 |[],_=>rfl
 |_::_,0=>rfl
 |x::l,i+1=>by simp[List.eraseIdx,qa9 f l i]
theorem qid{es:List MapEntry}(h:(es.map (·.born)).Nodup){i j:Nat}(hi:i<es.length)(hj:j<es.length)(e:es[i].born=es[j].born):i=j:=by
 have hp:=ya8.1 h;rcases yaX i j with hlt|rfl|hlt
 ·exact absurd (by rw[ybe,ybe];exact e) (hp i j (by simpa using hi) (by simpa using hj) hlt)
 ·rfl
 ·exact absurd (by rw[ybe,ybe];exact e.symm) (hp j i (by simpa using hj) (by simpa using hi) hlt)
theorem MapOf.erase{es:Array MapEntry}{clk:Nat}{l:Msgs}(h:MapOf es clk l)(j:Nat):MapOf (es.eraseIdxIfInBounds j) clk (l.eraseIdx j):=by
 have e:(es.eraseIdxIfInBounds j).toList=es.toList.eraseIdx j:=by simp
 refine⟨by rw[e,qa9,h.key,qa9],by rw[e,qa9,h.val,qa9],?_,fun x hx=>h.old x ?_⟩
 ·rw[e];exact h.born.sublist ((yaF _ _).map _)
 ·rw[e] at hx;exact(yaF _ _).subset hx
theorem MapOf.at{es:Array MapEntry}{clk:Nat}{l:Msgs}(h:MapOf es clk l){i:Nat}{e:MapEntry}(he:es.toList[i]?=some e):∃x,l[i]?=some x/\e.key=keyV x.1.sender x.1.seq/\e.val=msgV x.1 x.2:=by
 have hk:=congrArg (fun z=>z[i]?) h.key;have hv:=congrArg (fun z=>z[i]?) h.val;simp only[yZ,he,yp] at hk hv;cases hx:l[i]? with
 |none=>rw[hx] at hk;cases hk
 | some x =>
   rw[hx] at hk hv;simp only[yp,yA] at hk hv;exact⟨x,rfl,hk,hv⟩
def keyI:Value->Int × Int
 |.agg cs=>(intOf (cs.getD 0 (.bool false)),intOf (cs.getD 1 (.bool false)))
 |_=>(0,0)
theorem qie(s q:Int):keyI (keyV s q)=(s,q):=rfl
structure Sifted (pd:Int->Int->Bool) (l:Msgs) (es:Array MapEntry) (clk:Nat) (seen:Array Nat) (lr:Msgs):Prop where
 map:MapOf es clk lr
 apart:qrj lr
 sub:lr.Sublist l
 keep:lr.filter (fun x=>!pd x.1.sender x.1.seq)=l.filter (fun x=>!pd x.1.sender x.1.seq)
 done:∀e∈es.toList,seen.contains e.born=true->pd (keyI e.key).1 (keyI e.key).2=false
theorem Sifted.end{pd:Int->Int->Bool}{l lr:Msgs}{es:Array MapEntry}{clk:Nat}{seen:Array Nat}(h:Sifted pd l es clk seen lr)(h0:(leftOf es seen).size=0):MapOf es clk (l.filter fun x=>!pd x.1.sender x.1.seq):=by
 have hall:∀e∈es.toList,seen.contains e.born=true:=by
  intro e he;cases hs:seen.contains e.born
  ·have:=qca he hs;omega
  ·rfl
 have:lr.filter (fun x=>!pd x.1.sender x.1.seq)=lr:=by
  rw[List.filter_eq_self];intro x hx;obtain⟨i,hi,rfl⟩:=y4 hx;have hi':i<es.toList.length:=by have:=h.map.length;simp;omega
  obtain⟨y,hy,hk, -⟩:=h.map.at (yh hi');rw[yh hi] at hy;cases hy;have:=h.done _ (yaU hi') (hall _ (yaU hi'));rw[hk,qie] at this;rw[this];rfl
 rw[<-h.keep,this];exact h.map
theorem Sifted.stay{pd:Int->Int->Bool}{l lr:Msgs}{es:Array MapEntry}{clk:Nat}{seen:Array Nat}(h:Sifted pd l es clk seen lr){e:MapEntry}(he:e∈es.toList)(hp:pd (keyI e.key).1 (keyI e.key).2=false):Sifted pd l es clk (seen.push e.born) lr:=by
 refine⟨h.map,h.apart,h.sub,h.keep,fun x hx hs=>?_⟩;rw[Array.contains_push,Bool.or_eq_true,beq_iff_eq] at hs;rcases hs with hs|hs
 ·exact h.done x hx hs
 ·obtain⟨i,hi,rfl⟩:=y4 hx;obtain⟨j,hj,rfl⟩:=y4 he;have:i=j:=qid h.map.born hi hj hs;subst this;exact hp
theorem Sifted.go{pd:Int->Int->Bool}{l lr:Msgs}{es:Array MapEntry}{clk:Nat}{seen:Array Nat}(h:Sifted pd l es clk seen lr){i:Nat}{e:MapEntry}{x:Codec.Msg × Value}(he:es.toList[i]?=some e)(hx:lr[i]?=some x)(hp:pd x.1.sender x.1.seq=true):Sifted pd l (es.eraseIdxIfInBounds i) clk (seen.push e.born) (lr.eraseIdx i):=by
 have et:(es.eraseIdxIfInBounds i).toList=es.toList.eraseIdx i:=by simp
 refine⟨h.map.erase i,h.apart.sublist (yaF _ _),(yaF _ _).trans h.sub,?_,fun y hy hs=>?_⟩
 ·rw[<-h.keep];obtain⟨hi,rfl⟩:=ym.1 hx;rw[List.eraseIdx_eq_take_drop_succ];conv=>rhs;rw[<-List.take_append_drop i lr,List.drop_eq_getElem_cons hi]
  rw[ya6,ya6,List.filter_cons,hp];rfl
 ·rw[et] at hy;rw[Array.contains_push,Bool.or_eq_true,beq_iff_eq] at hs;obtain⟨hi,rfl⟩:=ym.1 he;rw[List.mem_eraseIdx_iff_getElem?] at hy;obtain⟨j,hne,hy⟩:=hy;obtain⟨hj,rfl⟩:=ym.1 hy;rcases hs with hs|hs
  ·exact h.done _ (yaU hj) hs
  ·exfalso
   exact hne (qid h.map.born hj hi hs)
theorem Ranging.strike{w:World}{mb r:Nat}{es:Array MapEntry}{clk:Nat}{seen:Array Nat}(h:Ranging w mb r es clk seen)(j:Nat)(hne:r≠mb):Ranging (setBlock w mb (.map (es.eraseIdxIfInBounds j) clk)) mb r (es.eraseIdxIfInBounds j) clk seen:=by
 have et:(es.eraseIdxIfInBounds j).toList=es.toList.eraseIdx j:=by simp
 refine⟨?_,?_,fun e he=>h.old e ?_,?_⟩
 ·show (w.heap.setIfInBounds mb _)[mb]?=_;rw[yR (yk.1 h.map).1]
 ·show (w.heap.setIfInBounds mb _)[r]?=_;rw[yP (fun e=>hne e.symm)];exact h.it
 ·rw[et] at he;exact(yaF _ _).subset he
 ·rw[et];exact h.born.sublist ((yaF _ _).map _)
theorem qbi{w:World}{mb:Nat}{o':Obj}(_h:w.heap[mb]?=some o')(o:Obj):w.grownBy (setBlock w mb o) (some mb):=by
 refine⟨rfl,rfl,rfl,?_,fun k _ hne=>?_⟩
 ·show w.heap.size<=(w.heap.setIfInBounds mb _).size;simp
 ·show (w.heap.setIfInBounds mb _)[k]?=_;rw[yP (fun e=>hne (by rw[e]))]
theorem qli(es:Array MapEntry)(seen:Array Nat)(j:Nat):(leftOf (es.eraseIdxIfInBounds j) seen).size<=(leftOf es seen).size:=by
 have key:∀(xs:Array MapEntry),(leftOf xs seen).size=(xs.toList.filter fun e=>!seen.contains e.born).length:=fun xs=>by
  unfold leftOf;rw[<-Array.toList_filter,yab]
 rw[key,key];have et:(es.eraseIdxIfInBounds j).toList=es.toList.eraseIdx j:=by simp
 rw[et];exact((yaF _ _).filter _).length_le
theorem qg5(g:Nat)(cb:Array Value)(eg:∀args w,(callFunc g args).run prog w=.ok (.enter g args) w)(pd:Int->Int->Bool)(mb:Nat)(es:Array MapEntry)(clk:Nat)(l:Msgs)(w:World)(hb:w.heap[mb]?=some (.map es clk))(hM:MapOf es clk l)(hd:qrj l)(hsl:∀x∈l,∃ao n c,x.2=.slice ao n c)
 (hdel:∀(W:World) (x:Codec.Msg × Value),x∈l->w.grownBy W (some mb)->Calls prog g (#[keyV x.1.sender x.1.seq,msgV x.1 x.2]++cb) W fun e w'=>e=.returned (.bool (pd x.1.sender x.1.seq))/\Below W.heap.size W w') :
 Calls prog 184 #[.map (some mb),.func (.func g) #[] cb] w fun e w'=>e=.returned (.tuple #[])/\w.grownBy w' (some mb)/\∃es',w'.heap[mb]?=some (.map es' clk)/\MapOf es' clk (l.filter fun x=>!pd x.1.sender x.1.seq):=by
 have HD:Hid (∀(W:World) (x:Codec.Msg × Value),x∈l->w.grownBy W (some mb)->Calls prog g (#[keyV x.1.sender x.1.seq,msgV x.1 x.2]++cb) W fun e w'=>e=.returned (.bool (pd x.1.sender x.1.seq))/\Below W.heap.size W w'):=hdel;clear hdel;have hmb:mb<w.heap.size:=(yk.1 hb).1;go_enter Tryz.func184,Tryz.ntmps184
 go_wp2_with (at_range;refine qal _ rfl _ 156 186 179 rfl Tryz.underlying156 rfl hb hM.old hM.born ?_;intro hR0)
 go_frame
 go_loopw [8] (fun _ wr=>∃seen esr lr,Ranging wr mb w.heap.size esr clk seen/\Sifted pd l esr clk seen lr/\w.grownBy wr (some mb)) (fun _ wr=>toCome wr mb w.heap.size)
 case atStart=>exact⟨#[],es,l,hR0,⟨hM,hd,List.Sublist.refl _,rfl,fun e _ h=>by simp at h⟩,⟨rfl,rfl,rfl,by simp,fun k hk _=>yQ _ _ _ hk⟩⟩
 case round=>
  obtain⟨seen,esr,lr,hR,hS,hG⟩:=hrel;have hms:=hR.toCome;clear hR0 hb hM hd;go_wp2_with (at_next;refine qaq _ rfl _ rfl mb w.heap.size rfl hR ?_ ?_)
  ·intro h0;go_wp2_with fail
   go_end0
   exact⟨rfl,hG,esr,hR.map,hS.end (by simp[h0])⟩
  ·intro e w1 he hse hR1 hG1 hs1 hen;have he':e∈esr.toList:=by simpa using he
   have hse':seen.contains e.born=false:=by simpa using hse
   clear he hse;obtain⟨i,hi,rfl⟩:=y4 he';obtain⟨x,hx,hke,hve⟩:=hS.map.at (yh hi);rw[hke,hve] at hen ⊢;have hxl:x∈l:=hS.sub.subset (yy hx);obtain⟨m,tv⟩:=x;obtain⟨ao,tn,tc,rfl⟩:=hsl _ hxl;unfold keyV msgV at hen ⊢;simp only at hen ⊢;go_wp2_with fail
   have hBa:Below wr.heap.size w1 ((w1.alloc (.cells #[J m.sender,J m.seq] 186)).alloc (.cells #[J m.sender,J m.seq,.slice ao tn tc,.string m.text] 179)):=((yi _ _).alloc (by omega) _).alloc (by simp;omega) _;have hGa:w.grownBy w1 (some mb):=hG.andThen hG1 (fun j hj=>by cases hj;exact .inl (yb _));have hGW:=hGa.andThen (row':=none) ⟨hBa.os,hBa.tape,hBa.output,hBa.size,fun k hk _=>hBa.block k (by omega)⟩ (fun j hj=>by cases hj);refine(HD.out _ (m,.slice ao tn tc) hxl hGW).mono ?_;rintro e w2 ⟨rfl,hb2⟩;have hB2:Below w1.heap.size w1 w2:=(hBa.mono (by omega)).trans (hb2.mono (by simp;omega));have hR2:=hR1.kept hB2;have hG2:=hGa.andThen (row':=none) ⟨hB2.os,hB2.tape,hB2.output,hB2.size,fun k hk _=>hB2.block k hk⟩ (fun j hj=>by cases hj);have hbox:BlkAt w2 wr.heap.size 186 #[J m.sender,J m.seq]:=((BlkAt.new w1 wr.heap.size hs1 186 _).alloc _).below hb2 (by simp;omega);have d0:w2.cell? (aT wr.heap.size 0)=some (J m.sender):=hbox.cell 0 _ rfl;have d1:w2.cell? (aT wr.heap.size 1)=some (J m.seq):=hbox.cell 1 _ rfl;clear hbox hb2 hBa hGW;cases hp:pd m.sender m.seq with
   | false =>
     go_wp2_with fail
     go_roundw
     case rel=>exact⟨_,esr,lr,hR2,hS.stay he' (by rw[hke,qie];exact hp),hG2⟩
     case measure=>rw[hR2.toCome,hms];exact qca he' hse'
   | true =>
     obtain⟨j,hj,hrun⟩:=qqh w2 m.sender m.seq hR2.map hS.map hS.apart (yy hx) (by simp[isK]) 0;have hji:j=i:=hS.apart.same hj hx;subst hji;unfold keyV at hrun;go_wp2_with fail
     have hne:w.heap.size≠mb:=by omega
     have hR3:=hR2.strike j hne;have hS3:=hS.go (yh hi) hx hp;go_roundw
     case rel=>exact⟨_,_,_,hR3,hS3,hG2.andThen (qbi hR2.map _) (fun j hj=>by cases hj;exact .inr rfl)⟩
     case measure=>rw[hR3.toCome,hms];exact Nat.lt_of_le_of_lt (qli esr _ j) (qca he' hse')
end
end Go.Proofs.YtoklolfaemhfnaaGreatDoor
