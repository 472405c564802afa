/- Parts. -/
import Derived.Test.YtacgbldlonoaaaaGreatDoorRr4
import Derived.Test.YtacgbldlonoaaaaGreatDoorRr2
namespace Go.Proofs.YtacgbldlonoaaaaGreatDoor
set_option maxHeartbeats 2000000
open Go.RowKit
section
variable {P:Program} {ops:Array Oper} {Q:Exit->Act->World->Prop} {md:Region.Mode} {E:Nat}
def wD (md:Region.Mode) (ops:Array Oper) (j:Nat):List Nat:=match ops[j]? with
 |some o=>(o.after.toList.filter (λe=>Region.binds md e)).map (λe=>e.on)
 |none=>[]
def av1 (md:Region.Mode) (ops:Array Oper) (S:List Nat):List Nat:=(S++S.flatMap (wD md ops)).eraseDups
def O3 (md:Region.Mode) (ops:Array Oper) (E:Nat):Nat->List Nat
 |0=>wD md ops E
 |n+1=>av1 md ops (O3 md ops E n)
def pR (md:Region.Mode) (ops:Array Oper) (L:Array Bool):Prop:=∀j oj,ops[j]?=some oj->L.getD j false=true->∀e∈oj.after,Region.binds md e=true->L.getD e.on false=true
def pX (md:Region.Mode) (ops:Array Oper) (L:Array Bool):Bool:=(List.range ops.size).all λj=> !(L.getD j false)||(wD md ops j).all (λk=>L.getD k false)
theorem wJ {j:Nat} {oj:Oper} (hj:ops[j]?=some oj) {k:Nat}:k∈wD md ops j↔∃e∈oj.after,Region.binds md e=true/\e.on=k:=by
 unfold wD;rw [hj];simp only[List.mem_map,List.mem_filter,Array.mem_toList_iff];constructor
 .rintro⟨e,⟨h1,h2⟩,h3⟩;exact⟨e,h1,h2,h3⟩
 .rintro⟨e,h1,h2,h3⟩;exact⟨e,⟨h1,h2⟩,h3⟩
theorem jQ {L:Array Bool} (h:pX md ops L=true):pR md ops L:=by
 intro j oj hj hl e he hb;unfold pX at h;rw [List.all_eq_true] at h
 have hjs:j < ops.size:=by
  rcases Nat.lt_or_ge j ops.size with h'|h'
  .exact h'
  .rw [Array.getElem?_eq_none h'] at hj;cases hj
 have h1:=h j (List.mem_range.2 hjs);rw [hl] at h1;simp only[Bool.not_true,Bool.false_or,List.all_eq_true] at h1;exact h1 e.on ((wJ hj).2 ⟨e,he,hb,rfl⟩)
theorem CQ {L:Array Bool} (hc:pR md ops L) (hE:E∈Region.ready md ops L):∀n,∀k∈O3 md ops E n,L.getD k false=true:=by
 obtain⟨_,o,ho,hall⟩:=mem_ready.1 hE;intro n;induction n with
 |zero=>
  intro k hk
  obtain⟨e,he,hb,rfl⟩:=(wJ ho).1 hk
  exact hall e he hb
 |succ n ih=>
  intro k hk
  have hk':k∈(O3 md ops E n++(O3 md ops E n).flatMap (wD md ops)).eraseDups:=hk
  rw [List.mem_eraseDups,List.mem_append,List.mem_flatMap] at hk'
  rcases hk' with h|⟨d,hd,hkd⟩
  .exact ih k h
  .cases hod:ops[d]? with
   |none=>unfold wD at hkd;rw [hod] at hkd;cases hkd
   |some od=>
    obtain⟨e,he,hb,rfl⟩:=(wJ hod).1 hkd
    exact hc d od hod (ih d hd) e he hb
theorem CY {L:Array Bool} {j:Nat} (hc:pR md ops L) (hj:j∈Region.ready md ops L):pR md ops (L.setIfInBounds j true):=by
 obtain⟨_,o,ho,hall⟩:=mem_ready.1 hj;intro k ok hk hl e he hb;by_cases hjk:j=k
 .subst hjk;obtain rfl:=Option.some.inj (ho.symm.trans hk);exact getD_set_true (hall e he hb)
 .rw [getD_set_ne false hjk] at hl;exact getD_set_true (hc k ok hk hl e he hb)
def eF (P:Program) (md:Region.Mode) (ops:Array Oper) (Q:Exit->Act->World->Prop) (E:Nat):Nat->Array Bool->Act->World->Prop
 |0,listed,a,w=>Region.ready md ops listed=[]/\∀x,Ge w x->Q .normal a x
 |fuel+1,listed,a,w=>(Region.ready md ops listed=[E]/\∀x,Ge w x->wpAny P md ops Q (fuel+1) listed a x)\/
  ∀x,Ge w x->(Region.ready md ops listed=[]->Q .normal a x)/\∀i∈Region.ready md ops listed,wpOp P ops Q i (λa' y=>Ge x y/\eF P md ops Q E fuel (listed.setIfInBounds i true) a' y) a x
theorem uO {fuel:Nat} {listed:Array Bool} {a:Act} {w x:World} (hx:Ge w x) (h:eF P md ops Q E fuel listed a w):eF P md ops Q E fuel listed a x:=by
 cases fuel with
 |zero=>exact⟨h.1,λy hy=>h.2 y (Ge.trans hx hy)⟩
 |succ fuel=>
  rcases h with⟨h1,h2⟩|h
  .exact .inl ⟨h1,λy hy=>h2 y (Ge.trans hx hy)⟩
  .exact .inr λy hy=>h y (Ge.trans hx hy)
theorem qB:∀(fuel:Nat) (listed:Array Bool) (a:Act) (w:World),eF P md ops Q E fuel listed a w->wpAny P md ops Q fuel listed a w
 |0,_,_,w,h=>⟨h.1,h.2 w (Below.refl _ _)⟩
 |_+1,_,_,w,.inl h=>h.2 w (Below.refl _ _)
 |fuel+1,_,_,w,.inr h=>⟨(h w (Below.refl _ _)).1,λi hi=>wpOp_mono (λa' y hy=>qB fuel _ a' y hy.2) ((h w (Below.refl _ _)).2 i hi)⟩
theorem yU {i:Nat} {oi:Oper} {v:Value} (n:Nat) (hi:ops[i]?=some oi) (hE:i∈O3 md ops E n) (hsel:∀(j:Nat) (o:Oper) cs b,ops[j]?=some o->o.op≠ .select cs b) (hQ:∀c a w,Q (.panic c) (a.put oi.dst v) w->Q (.panic c) a w):
 ∀(fuel:Nat) (listed:Array Bool) (a:Act) (w:World),pR md ops listed->
  (∀j oj,ops[j]?=some oj->j≠i->listed.getD j true=false->(∀e∈oj.after,Region.binds md e=true->e.on≠i)->oi.apart ops oj=true)->
  i∈Region.ready md ops listed->pV P ops oi v a w->eF P md ops Q E fuel (listed.setIfInBounds i true) (a.put oi.dst v) w->eF P md ops Q E (fuel+1) listed a w:=by
 intro fuel;induction fuel with
 |zero=>
  intro listed a w _ _ hr hy H
  refine .inr λx hx=>⟨λh=>Abh,λj hj=>?_⟩
  by_cases hji:j=i
  .exact aez
  .exact Rt
 |succ fuel ih=>
  intro listed a w hcl hfree hr hy H
  refine .inr λx hx=>⟨λh=>Abh,λj hj=>?_⟩
  by_cases hji:j=i
  .exact aez
  .rcases H with⟨h1,_⟩|H
   .exfalso
    have h2:=ready_mono hj hji;rw [h1] at h2;obtain rfl:j=E:=by simpa using h2
    have h3:=CQ hcl hj n i hE;have h4:=(mem_ready.1 hr).1;rcases Nat.lt_or_ge i listed.size with h'|h'
    .simp[h'] at h3 h4;rw [h4] at h3;cases h3
    .simp[Array.getElem?_eq_none h'] at h3
   .have h1:=(H x hx).2 j (ready_mono hj hji);exact asu
theorem uP (i n:Nat) {oi:Oper} {fuel:Nat} {listed:Array Bool} {a:Act} {w:World} (hi:ops[i]?=some oi) (hs:Region.noSelect ops=true) (hf:Region.free md ops listed i=true) (hr:(Region.ready md ops listed).contains i=true)
 (hcl:pX md ops listed=true) (hE:(O3 md ops E n).contains i=true)
 (hQ:∀v c a w,Q (.panic c) (a.put oi.dst v) w->Q (.panic c) a w)
 (h:∀K:Act->Prop,(∀a',eF P md ops Q E fuel (listed.setIfInBounds i true) a' w->K a')->if Region.wanted oi (yielded ops a.tmps) then∃v,(∀p:Regrown,Oper.quietUpon P (Ge (Gr w p)) (Gr w p) v ((execOp a.eval oi).run P (Gr w p)))/\K (a.put oi.dst v) else K (a.put oi.dst undef)):
 eF P md ops Q E (fuel+1) listed a w:=by
 have h':=h _ λ_ h=>h
 have hE':i∈O3 md ops E n:=Ace
 by_cases hw:Region.wanted oi (yielded ops a.tmps)=true
 .rw [if_pos hw] at h';obtain⟨v,hv,hk⟩:=h';refine yU n hi hE' (Region.noSelect_spec hs) (hQ v) fuel listed a w (jQ hcl) (Region.free_spec hi hf) Abj (.inl ⟨hw,λx hx=>?_⟩) hk;exact Xw
 .rw [if_neg hw] at h';exact yU n hi hE' (Region.noSelect_spec hs) (hQ undef) fuel listed a w (jQ hcl) (Region.free_spec hi hf) Abj (.inr ⟨Acg,rfl⟩) h'
theorem dz (i:Nat) {oi:Oper} {fuel:Nat} {listed:Array Bool} {a:Act} {w:World} (hi:ops[i]?=some oi) (hr:Region.ready md ops listed=[i]) (hw:Region.wanted oi (yielded ops a.tmps)=true)
 (h:∀x,Ge w x->oi.wp P a x (λa' y=>Ge x y/\eF P md ops Q E fuel (listed.setIfInBounds i true) a' y) Q):eF P md ops Q E (fuel+1) listed a w:=by
 refine .inr λx hx=>?_
 exact adU
theorem wX (i j:Nat) {oi oj:Oper} {fuel:Nat} {listed:Array Bool} {a:Act} {w:World} (hi:ops[i]?=some oi) (hj:ops[j]?=some oj) (hr:Region.ready md ops listed=[i,j]) (hwi:Region.wanted oi (yielded ops a.tmps)=true) (hwj:Region.wanted oj (yielded ops a.tmps)=true)
 (h1:∀x,Ge w x->oi.wp P a x (λa' y=>Ge x y/\eF P md ops Q E fuel (listed.setIfInBounds i true) a' y) Q)
 (h2:∀x,Ge w x->oj.wp P a x (λa' y=>Ge x y/\eF P md ops Q E fuel (listed.setIfInBounds j true) a' y) Q):eF P md ops Q E (fuel+1) listed a w:=by
 refine .inr λx hx=>?_
 rw [hr];refine⟨λh=>Aax,λk hk=>?_⟩;have hk':k=i\/k=j:=Aca
 rcases hk' with rfl|rfl
 .exact Xo
 .exact Xp
theorem aT {fuel:Nat} {listed:Array Bool} {a:Act} {w:World} (hr:Region.ready md ops listed=[E]) (h:∀x,Ge w x->wpAny P md ops Q (fuel+1) listed a x):eF P md ops Q E (fuel+1) listed a w:= .inl ⟨hr,h⟩
theorem aF (i:Nat) {oi:Oper} {fuel:Nat} {listed:Array Bool} {a:Act} {w:World} (hi:ops[i]?=some oi) (hr:Region.ready md ops listed=[i]) (hw:Region.wanted oi (yielded ops a.tmps)=true)
 (h:oi.wp P a w (wpAny P md ops Q fuel (listed.setIfInBounds i true)) Q):wpAny P md ops Q (fuel+1) listed a w:=by
 refine⟨λh=>(by rw [hr] at h;cases h),λj hj=>?_⟩;rw [hr] at hj;obtain rfl:j=i:=Aat
 unfold wpOp;simp only[hi];rw [if_pos hw];exact .inl h
theorem wpAny_done {listed:Array Bool} {a:Act} {w:World} (hr:Region.ready md ops listed=[]) (h:Q .normal a w):wpAny P md ops Q 0 listed a w:=⟨hr,h⟩
def sU (P:Program) (md:Region.Mode) (ops:Array Oper) (Q:Exit->Act->World->Prop) (fuel:Nat) (listed:Array Bool) (a:Act) (w:World):Prop:=∀x,Ge w x->wpAny P md ops Q fuel listed a x
theorem nD (i:Nat) {oi:Oper} {fuel:Nat} {listed:Array Bool} {a:Act} {w:World} (hi:ops[i]?=some oi) (hs:Region.noSelect ops=true) (hf:Region.free md ops listed i=true) (hr:(Region.ready md ops listed).contains i=true)
 (hQ:∀v c a w,Q (.panic c) (a.put oi.dst v) w->Q (.panic c) a w)
 (h:∀K:Act->Prop,(∀a',sU P md ops Q fuel (listed.setIfInBounds i true) a' w->K a')->if Region.wanted oi (yielded ops a.tmps) then∃v,(∀x:World,(execOp a.eval oi).run P x= .ok (.value v) x)/\K (a.put oi.dst v) else K (a.put oi.dst undef)):
 sU P md ops Q (fuel+1) listed a w:=by
 have h':=h _ λ_ h=>h
 intro x hx;by_cases hw:Region.wanted oi (yielded ops a.tmps)=true
 .rw [if_pos hw] at h';obtain⟨v,hv,hk⟩:=h';exact wpAny_take hi hs hf hr (hQ v) (.inl ⟨hw,hv⟩) (hk x hx)
 .rw [if_neg hw] at h';exact wpAny_take hi hs hf hr (hQ undef) (.inr ⟨Acg,rfl⟩) (h' x hx)
theorem ql (E:Nat) {fuel:Nat} {listed:Array Bool} {a:Act} {w:World} (h:eF P md ops Q E fuel listed a w):sU P md ops Q fuel listed a w:=λ_ hx=>qB _ _ _ _ (uO hx h)
theorem jN {id:Nat} {a:Act} {w:World} (hm:P.follows .mixedOrders=true) (h:sU P .any ops Q ops.size (Array.replicate ops.size false) a w):(Code.region id ops true).wp P Q a w:=
 wp_region_any hm (h {w with drawn:=w.drawn+1} ⟨rfl,rfl,rfl,Nat.le_refl _,λ_ _=>rfl⟩)
theorem bE (E:Nat) {id:Nat} {a:Act} {w:World} (hm:P.follows .mixedOrders=true) (h:eF P .any ops Q E ops.size (Array.replicate ops.size false) a w):(Code.region id ops true).wp P Q a w:=
 wp_region_any hm (qB _ _ _ _ (uO (w:=w) (x:={w with drawn:=w.drawn+1}) ⟨rfl,rfl,rfl,Nat.le_refl _,λ_ _=>rfl⟩ h))
end
section
variable {P:Program} {ops:Array Oper} {Q:Exit->Act->World->Prop} {md:Region.Mode} {E:Nat}
def jv (P:Program) (md:Region.Mode) (ops:Array Oper) (Q:Exit->Act->World->Prop) (E:Nat):Nat->Array Bool->Act->World->Prop
 |0,listed,a,w=>Region.ready md ops listed=[]/\∀x,Ge w x->Q .normal a x
 |fuel+1,listed,a,w=>∀x,Ge w x->(Region.ready md ops listed=[]->Q .normal a x)/\∀i∈Region.ready md ops listed,
  (i=E->wpOp P ops Q i (λa' y=>wpAny P md ops Q fuel (listed.setIfInBounds i true) a' y) a x)/\
  (i≠E->wpOp P ops Q i (λa' y=>Ge x y/\jv P md ops Q E fuel (listed.setIfInBounds i true) a' y) a x)
theorem Bb {fuel:Nat} {listed:Array Bool} {a:Act} {w x:World} (hx:Ge w x) (h:jv P md ops Q E fuel listed a w):jv P md ops Q E fuel listed a x:=by
 exact afH
theorem vY:∀(fuel:Nat) (listed:Array Bool) (a:Act) (w:World),jv P md ops Q E fuel listed a w->wpAny P md ops Q fuel listed a w
 |0,_,_,w,h=>⟨h.1,h.2 w (Below.refl _ _)⟩
 |fuel+1,_,_,w,h=>⟨(h w (Below.refl _ _)).1,λi hi=>by
  by_cases hE:i=E
  .exact((h w (Below.refl _ _)).2 i hi).1 hE
  .exact wpOp_mono (λa' y hy=>vY fuel _ a' y hy.2) (((h w (Below.refl _ _)).2 i hi).2 hE)⟩
theorem yV {i:Nat} {oi:Oper} {v:Value} (n:Nat) (hi:ops[i]?=some oi) (hE:i∈O3 md ops E n) (hsel:∀(j:Nat) (o:Oper) cs b,ops[j]?=some o->o.op≠ .select cs b) (hQ:∀c a w,Q (.panic c) (a.put oi.dst v) w->Q (.panic c) a w):
 ∀(fuel:Nat) (listed:Array Bool) (a:Act) (w:World),pR md ops listed->
  (∀j oj,ops[j]?=some oj->j≠i->listed.getD j true=false->(∀e∈oj.after,Region.binds md e=true->e.on≠i)->oi.apart ops oj=true)->
  i∈Region.ready md ops listed->pV P ops oi v a w->jv P md ops Q E fuel (listed.setIfInBounds i true) (a.put oi.dst v) w->jv P md ops Q E (fuel+1) listed a w:=by
 open am4 in exact acr
theorem OX (i n:Nat) {oi:Oper} {fuel:Nat} {listed:Array Bool} {a:Act} {w:World} (hi:ops[i]?=some oi) (hs:Region.noSelect ops=true) (hf:Region.free md ops listed i=true) (hr:(Region.ready md ops listed).contains i=true)
 (hcl:pX md ops listed=true) (hE:(O3 md ops E n).contains i=true)
 (hQ:∀v c a w,Q (.panic c) (a.put oi.dst v) w->Q (.panic c) a w)
 (h:∀K:Act->Prop,(∀a',jv P md ops Q E fuel (listed.setIfInBounds i true) a' w->K a')->if Region.wanted oi (yielded ops a.tmps) then∃v,(∀p:Regrown,Oper.quietUpon P (Ge (Gr w p)) (Gr w p) v ((execOp a.eval oi).run P (Gr w p)))/\K (a.put oi.dst v) else K (a.put oi.dst undef)):
 jv P md ops Q E (fuel+1) listed a w:=by
 have h':=h _ λ_ h=>h
 have hE':i∈O3 md ops E n:=Ace
 by_cases hw:Region.wanted oi (yielded ops a.tmps)=true
 .rw [if_pos hw] at h';obtain⟨v,hv,hk⟩:=h';refine yV n hi hE' (Region.noSelect_spec hs) (hQ v) fuel listed a w (jQ hcl) (Region.free_spec hi hf) Abj (.inl ⟨hw,λx hx=>?_⟩) hk;exact Xw
 .rw [if_neg hw] at h';exact yV n hi hE' (Region.noSelect_spec hs) (hQ undef) fuel listed a w (jQ hcl) (Region.free_spec hi hf) Abj (.inr ⟨Acg,rfl⟩) h'
theorem QN (i:Nat) {oi:Oper} {fuel:Nat} {listed:Array Bool} {a:Act} {w:World} (hi:ops[i]?=some oi) (hr:Region.ready md ops listed=[i]) (hw:Region.wanted oi (yielded ops a.tmps)=true) (hiE:i≠E)
 (h:∀x,Ge w x->oi.wp P a x (λa' y=>Ge x y/\jv P md ops Q E fuel (listed.setIfInBounds i true) a' y) Q):jv P md ops Q E (fuel+1) listed a w:=by
 exact asV
theorem jd (i:Nat) {oi oj:Oper} {fuel:Nat} {listed:Array Bool} {a:Act} {w:World} (hi:ops[i]?=some oi) (hj:ops[E]?=some oj) (hr:Region.ready md ops listed=[i,E]) (hwi:Region.wanted oi (yielded ops a.tmps)=true) (hwj:Region.wanted oj (yielded ops a.tmps)=true) (hiE:i≠E)
 (h1:∀x,Ge w x->oi.wp P a x (λa' y=>Ge x y/\jv P md ops Q E fuel (listed.setIfInBounds i true) a' y) Q)
 (h2:∀x,Ge w x->oj.wp P a x (wpAny P md ops Q fuel (listed.setIfInBounds E true)) Q):jv P md ops Q E (fuel+1) listed a w:=by
 intro x hx;rw [hr];refine⟨λh=>Aax,λk hk=>?_⟩;have hk':k=i\/k=E:=Aca
 rcases hk' with rfl|rfl
 .refine⟨λe=>absurd e hiE,λ_=>?_⟩;exact Xo
 .refine⟨λ_=>?_,λe=>absurd rfl e⟩;exact Xp
theorem yX {fuel:Nat} {listed:Array Bool} {a:Act} {w:World} (hr:Region.ready md ops listed=[E]) (h:∀x,Ge w x->wpAny P md ops Q (fuel+1) listed a x):jv P md ops Q E (fuel+1) listed a w:=λx hx=>⟨(h x hx).1,λi hi=>⟨λ_=>(h x hx).2 i hi,λhne=>absurd (by rw [hr] at hi;simpa using hi) hne⟩⟩
theorem uQ (E:Nat) {id:Nat} {a:Act} {w:World} (hm:P.follows .mixedOrders=true) (h:jv P .any ops Q E ops.size (Array.replicate ops.size false) a w):(Code.region id ops true).wp P Q a w:=
 wp_region_any hm (vY _ _ _ _ (Bb (w:=w) (x:={w with drawn:=w.drawn+1}) ⟨rfl,rfl,rfl,Nat.le_refl _,λ_ _=>rfl⟩ h))
end
section
variable {P:Program} {ops:Array Oper} {Q:Exit->Act->World->Prop} {md:Region.Mode} {E b:Nat}
def iR (P:Program) (md:Region.Mode) (ops:Array Oper) (Q:Exit->Act->World->Prop) (E b:Nat):Nat->Array Bool->Act->World->Prop
 |0,listed,a,w=>Region.ready md ops listed=[]/\∀x,Ge w x->Q .normal a x
 |fuel+1,listed,a,w=>∀x,Ge w x->(Region.ready md ops listed=[]->Q .normal a x)/\∀i∈Region.ready md ops listed,
  (i=E->wpOp P ops Q i (λa' y=>wpAny P md ops Q fuel (listed.setIfInBounds i true) a' y) a x)/\
  (i≠E->wpOp P ops Q i (λa' y=>Below b x y/\iR P md ops Q E b fuel (listed.setIfInBounds i true) a' y) a x)
theorem Ba {fuel:Nat} {listed:Array Bool} {a:Act} {w x:World} (hx:Ge w x) (h:iR P md ops Q E b fuel listed a w):iR P md ops Q E b fuel listed a x:=by
 exact afH
theorem vX:∀(fuel:Nat) (listed:Array Bool) (a:Act) (w:World),iR P md ops Q E b fuel listed a w->wpAny P md ops Q fuel listed a w
 |0,_,_,w,h=>⟨h.1,h.2 w (Below.refl _ _)⟩
 |fuel+1,_,_,w,h=>⟨(h w (Below.refl _ _)).1,λi hi=>by
  by_cases hE:i=E
  .exact((h w (Below.refl _ _)).2 i hi).1 hE
  .exact wpOp_mono (λa' y hy=>vX fuel _ a' y hy.2) (((h w (Below.refl _ _)).2 i hi).2 hE)⟩
def Cc (P:Program) (ops:Array Oper) (b:Nat) (o:Oper) (v:Value) (a:Act) (w:World):Prop:=
 (Region.wanted o (yielded ops a.tmps)=true/\∀x,Below b w x->Oper.quietUpon P (Ge x) x v ((execOp a.eval o).run P x))\/(Region.wanted o (yielded ops a.tmps)=false/\v=undef)
theorem Cc.toG {o:Oper} {v:Value} {a:Act} {w:World} (h:Cc P ops b o v a w) (hb:b<=w.heap.size):pV P ops o v a w:=h.imp (fun⟨p,q⟩=>⟨p,λx hx=>q x (hx.mono hb)⟩) id
theorem yT {i:Nat} {oi:Oper} {v:Value} (n:Nat) (hi:ops[i]?=some oi) (hE:i∈O3 md ops E n) (hsel:∀(j:Nat) (o:Oper) cs b,ops[j]?=some o->o.op≠ .select cs b) (hQ:∀c a w,Q (.panic c) (a.put oi.dst v) w->Q (.panic c) a w):
 ∀(fuel:Nat) (listed:Array Bool) (a:Act) (w:World),b<=w.heap.size->pR md ops listed->
  (∀j oj,ops[j]?=some oj->j≠i->listed.getD j true=false->(∀e∈oj.after,Region.binds md e=true->e.on≠i)->oi.apart ops oj=true)->
  i∈Region.ready md ops listed->Cc P ops b oi v a w->iR P md ops Q E b fuel (listed.setIfInBounds i true) (a.put oi.dst v) w->iR P md ops Q E b (fuel+1) listed a w:=by
 open am5 in exact acr
structure Und (b:Nat) (w:World) where
 x:World
 h:Below b w x
theorem cK {b:Nat} {w:World} {g i:Nat} {v:Option Value} (hg:g < b) (h:w.cell? ⟨g,i,none⟩=v):∀p:Und b w,p.x.cell? ⟨g,i,none⟩=v:=λp=>(p.h.cell (p:=⟨g,i,none⟩) hg).trans h
theorem OW (i n:Nat) {oi:Oper} {fuel:Nat} {listed:Array Bool} {a:Act} {w:World} (hb:b<=w.heap.size) (hi:ops[i]?=some oi) (hs:Region.noSelect ops=true) (hf:Region.free md ops listed i=true) (hr:(Region.ready md ops listed).contains i=true)
 (hcl:pX md ops listed=true) (hE:(O3 md ops E n).contains i=true)
 (hQ:∀v c a w,Q (.panic c) (a.put oi.dst v) w->Q (.panic c) a w)
 (h:∀K:Act->Prop,(∀a',iR P md ops Q E b fuel (listed.setIfInBounds i true) a' w->K a')->if Region.wanted oi (yielded ops a.tmps) then∃v,(∀p:Und b w,Oper.quietUpon P (Ge p.x) p.x v ((execOp a.eval oi).run P p.x))/\K (a.put oi.dst v) else K (a.put oi.dst undef)):
 iR P md ops Q E b (fuel+1) listed a w:=by
 have h':=h _ λ_ h=>h
 have hE':i∈O3 md ops E n:=Ace
 by_cases hw:Region.wanted oi (yielded ops a.tmps)=true
 .rw [if_pos hw] at h';obtain⟨v,hv,hk⟩:=h';exact yT n hi hE' (Region.noSelect_spec hs) (hQ v) fuel listed a w hb (jQ hcl) (Region.free_spec hi hf) Abj (.inl ⟨hw,λx hx=>hv ⟨x,hx⟩⟩) hk
 .rw [if_neg hw] at h';exact yT n hi hE' (Region.noSelect_spec hs) (hQ undef) fuel listed a w hb (jQ hcl) (Region.free_spec hi hf) Abj (.inr ⟨Acg,rfl⟩) h'
theorem gF (i:Nat) {oi:Oper} {fuel:Nat} {listed:Array Bool} {a:Act} {w:World} (hi:ops[i]?=some oi) (hr:Region.ready md ops listed=[i]) (hw:Region.wanted oi (yielded ops a.tmps)=true) (hiE:i≠E)
 (h:∀x,Ge w x->oi.wp P a x (λa' y=>Below b x y/\iR P md ops Q E b fuel (listed.setIfInBounds i true) a' y) Q):iR P md ops Q E b (fuel+1) listed a w:=by
 exact asV
theorem jM (i j:Nat) {oi oj:Oper} {fuel:Nat} {listed:Array Bool} {a:Act} {w:World} (hi:ops[i]?=some oi) (hj:ops[j]?=some oj) (hr:Region.ready md ops listed=[i,j]) (hwi:Region.wanted oi (yielded ops a.tmps)=true) (hwj:Region.wanted oj (yielded ops a.tmps)=true) (hiE:i≠E) (hjE:j≠E)
 (h1:∀x,Ge w x->oi.wp P a x (λa' y=>Below b x y/\iR P md ops Q E b fuel (listed.setIfInBounds i true) a' y) Q)
 (h2:∀x,Ge w x->oj.wp P a x (λa' y=>Below b x y/\iR P md ops Q E b fuel (listed.setIfInBounds j true) a' y) Q):iR P md ops Q E b (fuel+1) listed a w:=by
 intro x hx;rw [hr];refine⟨λh=>Aax,λk hk=>?_⟩;have hk':k=i\/k=j:=Aca
 rcases hk' with rfl|rfl
 .refine⟨λe=>absurd e hiE,λ_=>?_⟩;exact Xo
 .refine⟨λe=>absurd e hjE,λ_=>?_⟩;exact Xp
theorem nW {fuel:Nat} {listed:Array Bool} {a:Act} {w:World} (hr:Region.ready md ops listed=[E]) (h:∀x,Ge w x->wpAny P md ops Q (fuel+1) listed a x):iR P md ops Q E b (fuel+1) listed a w:=λx hx=>⟨(h x hx).1,λi hi=>⟨λ_=>(h x hx).2 i hi,λhne=>absurd (by rw [hr] at hi;simpa using hi) hne⟩⟩
theorem lN (E b:Nat) {id:Nat} {a:Act} {w:World} (hm:P.follows .mixedOrders=true) (h:iR P .any ops Q E b ops.size (Array.replicate ops.size false) a w):(Code.region id ops true).wp P Q a w:=
 wp_region_any hm (vX (E:=E) (b:=b) _ _ _ _ (Ba (w:=w) (x:={w with drawn:=w.drawn+1}) ⟨rfl,rfl,rfl,Nat.le_refl _,λ_ _=>rfl⟩ h))
end
section
variable {P:Program} {ops:Array Oper} {Q:Exit->Act->World->Prop} {md:Region.Mode} {E b:Nat} {is:List Nat} {i:Nat} {oi:Oper} {fuel:Nat} {listed:Array Bool} {a:Act} {w:World}
def TkL (_:List Nat) (p:Prop):Prop:=p
theorem tk (is:List Nat) {p:Prop} (h:TkL is p):p:=h
theorem iN {p:Prop} (h:p):TkL [] p:=h
theorem tY (h:∀K:Act->Prop,(∀a',TkL is (gX P md ops Q fuel (listed.setIfInBounds i true) a' w)->K a')->if Region.wanted oi (yielded ops a.tmps) then∃v,(∀p:Regrown,Oper.quietUpon P (Ge (Gr w p)) (Gr w p) v ((execOp a.eval oi).run P (Gr w p)))/\K (a.put oi.dst v) else K (a.put oi.dst undef)) (hi:ops[i]?=some oi:=by rfl) (hs:Region.noSelect ops=true:=by kernel_rfl) (hf:Region.free md ops listed i=true:=by kernel_rfl) (hr:(Region.ready md ops listed).contains i=true:=by kernel_rfl) (hQ:∀v c a w,Q (.panic c) (a.put oi.dst v) w->Q (.panic c) a w:=by exact λ_ _ _ _ h=>h):TkL (i::is) (gX P md ops Q (fuel+1) listed a w):=
 dD i hi hs hf hr hQ h
theorem qA (h:∀K:Act->Prop,(∀a',TkL is (eF P md ops Q E fuel (listed.setIfInBounds i true) a' w)->K a')->if Region.wanted oi (yielded ops a.tmps) then∃v,(∀p:Regrown,Oper.quietUpon P (Ge (Gr w p)) (Gr w p) v ((execOp a.eval oi).run P (Gr w p)))/\K (a.put oi.dst v) else K (a.put oi.dst undef)) (hi:ops[i]?=some oi:=by rfl) (hs:Region.noSelect ops=true:=by kernel_rfl) (hf:Region.free md ops listed i=true:=by kernel_rfl) (hr:(Region.ready md ops listed).contains i=true:=by kernel_rfl) (hcl:pX md ops listed=true:=by kernel_rfl) (hE:(O3 md ops E 20).contains i=true:=by kernel_rfl) (hQ:∀v c a w,Q (.panic c) (a.put oi.dst v) w->Q (.panic c) a w:=by exact λ_ _ _ _ h=>h):TkL (i::is) (eF P md ops Q E (fuel+1) listed a w):=
 uP i 20 hi hs hf hr hcl hE hQ h
theorem tkF (h:∀K:Act->Prop,(∀a',TkL is (jv P md ops Q E fuel (listed.setIfInBounds i true) a' w)->K a')->if Region.wanted oi (yielded ops a.tmps) then∃v,(∀p:Regrown,Oper.quietUpon P (Ge (Gr w p)) (Gr w p) v ((execOp a.eval oi).run P (Gr w p)))/\K (a.put oi.dst v) else K (a.put oi.dst undef)) (hi:ops[i]?=some oi:=by rfl) (hs:Region.noSelect ops=true:=by kernel_rfl) (hf:Region.free md ops listed i=true:=by kernel_rfl) (hr:(Region.ready md ops listed).contains i=true:=by kernel_rfl) (hcl:pX md ops listed=true:=by kernel_rfl) (hE:(O3 md ops E 20).contains i=true:=by kernel_rfl) (hQ:∀v c a w,Q (.panic c) (a.put oi.dst v) w->Q (.panic c) a w:=by exact λ_ _ _ _ h=>h):TkL (i::is) (jv P md ops Q E (fuel+1) listed a w):=
 OX i 20 hi hs hf hr hcl hE hQ h
theorem tkB (hb:b<=w.heap.size) (h:∀K:Act->Prop,(∀a',TkL is (iR P md ops Q E b fuel (listed.setIfInBounds i true) a' w)->K a')->if Region.wanted oi (yielded ops a.tmps) then∃v,(∀p:Und b w,Oper.quietUpon P (Ge p.x) p.x v ((execOp a.eval oi).run P p.x))/\K (a.put oi.dst v) else K (a.put oi.dst undef)) (hi:ops[i]?=some oi:=by rfl) (hs:Region.noSelect ops=true:=by kernel_rfl) (hf:Region.free md ops listed i=true:=by kernel_rfl) (hr:(Region.ready md ops listed).contains i=true:=by kernel_rfl) (hcl:pX md ops listed=true:=by kernel_rfl) (hE:(O3 md ops E 20).contains i=true:=by kernel_rfl) (hQ:∀v c a w,Q (.panic c) (a.put oi.dst v) w->Q (.panic c) a w:=by exact λ_ _ _ _ h=>h):TkL (i::is) (iR P md ops Q E b (fuel+1) listed a w):=
 OW i 20 hb hi hs hf hr hcl hE hQ h
end
set_option maxRecDepth 100000
open Go.RowKit Go.Extern.Stop Go.Stop Go.Extern
namespace As
theorem noAs (v:Value) (xT:TypeId) (w:World):(Instr.typeAssert (.iface 279 v) xT 321 true).run Tryz.prog w= .ok (.tuple #[.nilIface,.bool false]) w:=run_typeAssert_lacksB Tryz.underlying321 Aab Aab v xT w
theorem hasUnwrap (v:Value) (xT:TypeId) (w:World):(Instr.typeAssert (.iface 279 v) xT 324 true).run Tryz.prog w= .ok (.tuple #[.iface 279 v,.bool true]) w:=run_typeAssert_hasB Tryz.underlying324 Aab v xT w
def no (p:Int):Value:= .iface 281 (.agg #[.int .i64 p])
def un (e:Value):Value:= .iface 279 (.agg #[e])
end As
theorem World.lt_of_cell {w:World} {a:Addr} {v:Value} (h:w.cell? a=some v):a.block < w.heap.size:=by
 rcases Nat.lt_or_ge a.block w.heap.size with h'|h'
 .exact h'
 .simp[World.cell?,Array.getElem?_eq_none h'] at h
theorem afM (p:Int) (tg:Value) (t a:Addr) (old:Value) (w:World) (ha:w.cell? a=some (.pointer (some t))) (ht:w.cell? t=some old) (hf:w.frozen? t=false):
 Calls Tryz.prog 258 #[.iface 279 (.agg #[.iface 281 (.agg #[.int .i64 p])]),tg,.agg #[.pointer (some ⟨6,283,none⟩),.pointer (some a),.int .u64 150],.iface 317 (.agg #[.pointer (some ⟨6,281,none⟩)])] w
  λe w'=>e= .returned (.bool true)/\Below t.block w w':=by
 open ah7 in exact aru
theorem afN (p:Int) (tg:Value) (t a:Addr) (old:Value) (w:World) (ha:w.cell? a=some (.pointer (some t))) (ht:w.cell? t=some old) (hf:w.frozen? t=false):
 Calls Tryz.prog 258 #[.iface 279 (.agg #[.iface 279 (.agg #[.iface 281 (.agg #[.int .i64 p])])]),tg,.agg #[.pointer (some ⟨6,283,none⟩),.pointer (some a),.int .u64 150],.iface 317 (.agg #[.pointer (some ⟨6,281,none⟩)])] w
  λe w'=>e= .returned (.bool true)/\Below t.block w w':=by
 open ah6 in exact aru
theorem LY (err:Value) (tb:Nat) (old:Value) (w:World) (hne:∃v,err= .iface 279 v)
 (has:∀(tg:Value) (t a:Addr) (old:Value) (w:World),w.cell? a=some (.pointer (some t))->w.cell? t=some old->w.frozen? t=false->
  Calls Tryz.prog 258 #[err,tg,.agg #[.pointer (some ⟨6,283,none⟩),.pointer (some a),.int .u64 150],.iface 317 (.agg #[.pointer (some ⟨6,281,none⟩)])] w λe w'=>e= .returned (.bool true)/\Below t.block w w')
 (hg:w.cell? ⟨5,0,none⟩=some (.iface 317 (.agg #[.pointer (some ⟨6,248,none⟩)])))
 (ht:w.cell? ⟨tb,0,none⟩=some old) (hf:w.frozen? ⟨tb,0,none⟩=false):
 Calls Tryz.prog 243 #[err,.iface 283 (.pointer (some ⟨tb,0,none⟩))] w λe w'=>e= .returned (.bool true)/\Below tb w w':=by
 obtain⟨v,rfl⟩:=hne;have HAS:=Hq has;clear has;open aqF in exact adB
def Handle (w:World):Prop:=w.cell? ⟨5,0,none⟩=some (.iface 317 (.agg #[.pointer (some ⟨6,248,none⟩)]))
theorem Handle.below {w w':World} (h:Handle w) (hb:aX w w'):Handle w':=by
 have hl:=World.lt_of_cell h;unfold Handle;rw [hb.cell (p:=⟨5,0,none⟩) hl];exact h
theorem M7 (w:World):Calls Tryz.prog 217 #[.nilIface] w (eP w (.bool false)):=by
 go_enter Tryz.func217,Tryz.ntmps217
 go_wp2_with (go_at_call 243;refine(afL _ _).mono ?_;rintro e w' ⟨rfl,rfl⟩)
 go_ret;exact⟨rfl,(Below.refl _ _).alloc (Nat.le_refl _) _⟩
theorem M8 (p:Int) (w:World) (h:Handle w):Calls Tryz.prog 217 #[.iface 279 (.agg #[.iface 281 (.agg #[.int .i64 p])])] w (eP w (.bool true)):=by
 open aqw in exact adA
theorem YJ (p:Int) (w:World) (h:Handle w):Calls Tryz.prog 217 #[.iface 279 (.agg #[.iface 279 (.agg #[.iface 281 (.agg #[.int .i64 p])])])] w (eP w (.bool true)):=by
 open aqv in exact adA
end Go.Proofs.YtacgbldlonoaaaaGreatDoor
