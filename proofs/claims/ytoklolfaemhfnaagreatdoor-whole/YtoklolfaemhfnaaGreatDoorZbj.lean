import Derived.Test.YtoklolfaemhfnaaGreatDoorZad
set_option maxRecDepth 100000
set_option maxHeartbeats 8000000
namespace Go.Cr
section
open Go Go.Pm
def FlatI(i:TypeInfo):Prop:=∀v,i.zero=some v->∀σ:Perm,v.pm σ=v
theorem qim{α β:Type}(I:β->Prop)(f:α->β->Option (ForInStep β))(hf:∀a b,I b->(∀b',f a b=some (.yield b')->I b')/\(∀b',f a b=some (.done b')->I b')) :
 ∀(l:List α) (b r:β),I b->forIn l b f=some r->I r
 | [], b, r, hb, h => by
   simp only[List.forIn_nil,pure,yA] at h;exact h▸hb
 | a :: l, b, r, hb, h => by
   rw[List.forIn_cons] at h;obtain⟨s,hs,h⟩:=yO.1 h;cases s with
   | done b' =>
     simp only[pure,yA] at h;exact h▸(hf a b hb).2 b' hs
   |yield b'=>exact qim I f hf l b' r ((hf a b hb).1 b' hs) h
theorem qj2{info:TypeId->Option TypeInfo}(hinfo:∀t i,info t=some i->FlatI i){fs:Array Field}{i:TypeInfo}(h:Made.reckonStruct info fs=some i):FlatI i:=by
 unfold Made.reckonStruct at h;simp only[bind,pure,yO] at h;obtain⟨r,hr,h⟩:=h;have hI:∀zs,r.2.2.2.2.2.2.2.1=some zs->∀σ:Perm,zs.map (Value.pm σ)=zs:=by
  rw[<-ybi] at hr;refine qim (fun s=>∀zs,s.2.2.2.2.2.2.2.1=some zs->∀σ:Perm,zs.map (Value.pm σ)=zs) _ (fun f b hb=>⟨fun b' hx=>?_,fun b' hx=>?_⟩) _ _ _ ?_ hr
  ·obtain⟨i,hi,hx⟩:=yO.1 hx;have hfl:=hinfo _ _ hi;have key:∀zs,(if b.2.1+i.size > Made.mostCells then none else b.2.2.2.2.2.2.2.1.bind fun z=>i.zero.bind fun z1=>some (z++z1.cells))=some zs->∀σ:Perm,zs.map (Value.pm σ)=zs:=by
    intro zs hz σ;split at hz
    ·cases hz
    ·obtain⟨z,h1,hz⟩:=yO.1 hz;obtain⟨z1,h2,hz⟩:=yO.1 hz;cases hz;have e1:=hb z h1 σ;have e2:=congrArg Value.cells (hfl z1 h2 σ);rw[qa2] at e2;rw[ya2,e1,e2]
   repeat' split at hx
   all_goals first|(cases hx;done)|skip
   all_goals (try (obtain⟨tag,_,hx⟩:=yO.1 hx))
   all_goals (repeat' split at hx)
   all_goals first|(cases hx;done)|skip
   all_goals (simp only[yA,ForInStep.yield.injEq] at hx;subst hx;intro zs hz σ;refine key zs ?_ σ;first|exact hz|(rw[if_neg (by assumption)];exact hz)|(rw[if_pos (by assumption)];exact hz))
  ·exfalso
   obtain⟨i,hi,hx⟩:=yO.1 hx;repeat' split at hx
   all_goals first|(cases hx;done)|skip
   all_goals (try (obtain⟨tag,_,hx⟩:=yO.1 hx))
   all_goals (repeat' split at hx)
   all_goals cases hx
  ·intro zs hz σ;simp only[yA] at hz;subst hz;simp
 intro v hv σ;have hz:Option.map Value.agg r.2.2.2.2.2.2.2.1=some v:=by
  split at h <;> (simp only[yA] at h;subst h;exact hv)
 obtain⟨zs,h1,rfl⟩:=yE.1 hz;have:=hI zs h1 σ;simp[this]
theorem qj3{info:TypeId->Option TypeInfo}(hinfo:∀t i,info t=some i->FlatI i){d:TypeDesc}{i:TypeInfo}(h:Made.reckon info d=some i):FlatI i:=by
 unfold Made.reckon at h;cases d with
 |struct fs=>exact qj2 hinfo h
 | pointer e =>
   simp only[bind,pure,yO] at h;obtain⟨i',_,h⟩:=h;have hw:∀s,FlatI (Made.word (.pointer e) s (.pointer none) true):=fun s v hv σ=>by simp only[Made.word,yA] at hv;subst hv;simp
   split at h
   ·cases h
   ·split at h
    ·cases h
    ·obtain⟨s,_,h⟩:=yO.1 h;cases h;exact hw _
   ·obtain⟨s,_,h⟩:=yO.1 h;cases h;exact hw _
 | slice e =>
   simp only[bind,pure,yO] at h;obtain⟨_,_,_,_,h⟩:=h;cases h;intro v hv σ;simp only[Made.word,yA] at hv;subst hv;simp
 | map k e =>
   simp only[bind,pure,yO] at h;obtain⟨_,_,_,_,_,_,_,_,h⟩:=h;cases h;intro v hv σ;simp only[Made.word,yA] at hv;subst hv;simp
 | chan dir e =>
   simp only[bind,pure,yO] at h;obtain⟨_,_,_,_,h⟩:=h;cases h;intro v hv σ;simp only[Made.word,yA] at hv;subst hv;simp
 | func ps rs vr =>
   simp only[bind,pure,yO] at h;obtain⟨_,_,h⟩:=h;cases h;intro v hv σ;simp only[Made.word,yA] at hv;subst hv;simp
 | array n e =>
   simp only[bind,pure,yO] at h;obtain⟨i',hi,_,_,h⟩:=h;cases h;intro v hv σ;simp only at hv;split at hv
   ·cases hv
   ·split at hv
    ·cases hv;simp
    ·obtain⟨z,h1,rfl⟩:=yE.1 hv;have e2:=congrArg Value.cells (hinfo _ _ hi z h1 σ);rw[qa2] at e2;simp[Array.map_flatten,e2]
 |_=>cases h
theorem qin{T:Tables}(hT:∀i∈T.types,FlatI i):∀(n:Nat) (t:TypeId) (i:TypeInfo),Made.infoAt T n t=some i->FlatI i
 |0,t,i,h=>by cases h
 | n + 1, t, i, h => by
   unfold Made.infoAt at h;split at h
   ·exact hT i (yaj h)
   ·obtain⟨d,_,h⟩:=yO.1 h;exact qj3 (qin hT n) h
theorem qo5{T:Tables}(hT:∀i∈T.types,FlatI i){t:TypeId}{i:TypeInfo}(h:T.info? t=some i):FlatI i:=by
 unfold Tables.info? at h;split at h
 ·exact hT i (yaj h)
 ·exact qin hT _ t i h
end
end Go.Cr
