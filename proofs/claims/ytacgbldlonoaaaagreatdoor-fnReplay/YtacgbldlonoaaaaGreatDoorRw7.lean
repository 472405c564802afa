/- Parts. -/
import Derived.Test.YtacgbldlonoaaaaGreatDoorRw3
namespace Go.Proofs.YtacgbldlonoaaaaGreatDoor
open Go.Proofs.Tryz
open Go.RowKit
abbrev Ge (w w':World):Prop:=aY w w'
theorem Ge.trans {a b c:World} (h:Ge a b) (h':Ge b c):Ge a c:=Below.trans h (Below.mono h' (Below.size h))
abbrev Gr (w:World) (p:Regrown):World:=Sort.grow (redrawn w p.d) p.os
section
variable {P:Program} {ops:Array Oper} {Q:Exit->Act->World->Prop} {md:Region.Mode}
def iL (P:Program) (md:Region.Mode) (ops:Array Oper) (Q:Exit->Act->World->Prop):Nat->Array Bool->Act->World->Prop
 |0,listed,a,w=>Region.ready md ops listed=[]/\∀x,Ge w x->Q .normal a x
 |fuel+1,listed,a,w=>∀x,Ge w x->(Region.ready md ops listed=[]->Q .normal a x)/\∀i∈Region.ready md ops listed,wpOp P ops Q i (λa' y=>Ge x y/\iL P md ops Q fuel (listed.setIfInBounds i true) a' y) a x
theorem GJ {fuel:Nat} {listed:Array Bool} {a:Act} {w x:World} (hx:Ge w x) (h:iL P md ops Q fuel listed a w):iL P md ops Q fuel listed a x:=by
 exact aja
theorem AZ:∀(fuel:Nat) (listed:Array Bool) (a:Act) (w:World),iL P md ops Q fuel listed a w->wpAny P md ops Q fuel listed a w
 |0,_,_,w,h=>⟨h.1,h.2 w (Below.refl _ _)⟩
 |fuel+1,_,_,w,h=>⟨(h w (Below.refl _ _)).1,λi hi=>wpOp_mono (λa' y hy=>AZ fuel _ a' y hy.2) ((h w (Below.refl _ _)).2 i hi)⟩
def rE (P:Program) (ops:Array Oper) (o:Oper) (v:Value) (a:Act) (w:World):Prop:=
 (Region.wanted o (yielded ops a.tmps)=true/\∀x,Ge w x->Oper.quietUpon P (Ge x) x v ((execOp a.eval o).run P x))\/(Region.wanted o (yielded ops a.tmps)=false/\v=undef)
theorem rE.wpOp {i:Nat} {o:Oper} {v:Value} {a:Act} {w x:World} (hi:ops[i]?=some o) (hy:rE P ops o v a w) (hx:Ge w x) {K:Act->World->Prop} (h:∀y,Ge x y->K (a.put o.dst v) y):wpOp P ops Q i K a x:=by
 unfold Go.wpOp;simp only[hi];rcases hy with⟨hw,hv⟩|⟨hw,rfl⟩
 .rw [if_pos hw];left
  have h1:=hv x hx;unfold Oper.wp;generalize (execOp a.eval o).run P x=r at *;cases r with
  |halt e y=>simp only[Oper.quietUpon] at h1
  |ok n y=>
   cases n<;>simp only[Oper.quietUpon] at h1<;>simp only[Oper.upon]
   case value u=>obtain⟨rfl,rfl⟩:=h1;exact h _ (Below.refl _ _)
   case skip=>obtain⟨rfl,rfl⟩:=h1;exact h _ (Below.refl _ _)
   case enter f args=>
    obtain⟨rfl,hc⟩:=h1;exact hc.mono λe z ⟨he,hz⟩=>by subst he;exact h z hz
 .rw [if_neg (by rw [hw];simp)];exact h _ (Below.refl _ _)
theorem YK {j:Nat} {oi oj:Oper} {v:Value} (hj:ops[j]?=some oj) (hap:oi.apart ops oj=true) (hsi:∀cs b,oi.op≠ .select cs b) (hsj:∀cs b,oj.op≠ .select cs b)
 (hQ:∀c a w,Q (.panic c) (a.put oi.dst v) w->Q (.panic c) a w) {K:Act->World->Prop} {a:Act} {x:World} (h:wpOp P ops Q j K (a.put oi.dst v) x):
 wpOp P ops Q j (λa' y=>(execOp a'.eval oi=execOp a.eval oi/\Region.wanted oi (yielded ops a'.tmps)=Region.wanted oi (yielded ops a.tmps))/\K (a'.put oi.dst v) y) a x:=by
 obtain⟨g1,g2,g3⟩:=Oper.apart_spec hap;have same:∀(b:Act) u,execOp (b.put oj.dst u).eval oi=execOp b.eval oi/\Region.wanted oi (yielded ops (b.put oj.dst u).tmps)=Region.wanted oi (yielded ops b.tmps):=λb u=>⟨execOp_put oi hsi b oj.dst u g3,wanted_put oi b oj.dst u g3⟩
 unfold wpOp at *;simp only[hj] at *;rw [wanted_put oj a oi.dst v g1] at h;by_cases hw:Region.wanted oj (yielded ops a.tmps)=true
 .rw [if_pos hw] at h ⊢;rcases h with h|⟨h,hl⟩
  .left
   unfold Oper.wp at *;rw [execOp_put oj hsj a oi.dst v g1] at h;generalize (execOp a.eval oj).run P x=r at *;cases r with
   |halt e y=>cases e<;>simp only[Oper.upon] at h ⊢;exact hQ _ _ _ h
   |ok n y=>
    cases n<;>simp only[Oper.upon] at h ⊢
    case value u=>exact⟨same a u,by rw [<-Act.put_comm a v u g2];exact h⟩
    case skip=>exact⟨same a _,by rw [<-Act.put_comm a v undef g2];exact h⟩
    case defer d=>
     refine⟨same {a with defers:=d::a.defers} _,?_⟩;rw [<-Act.put_comm _ v undef g2,<-Act.put_defers];exact h
    case enter f args=>
     refine Calls.mono h λe z he=>?_
     cases e with
     |returned u=>exact⟨same a u,by rw [<-Act.put_comm a v u g2];exact he⟩
     |panicked c=>exact hQ _ _ _ he
     |outgrown=>exact he
    case row r args=>exact Rows.mono h λu z he=>⟨same a u,by rw [<-Act.put_comm a v u g2];exact he⟩
  .right
   refine⟨?_,hl⟩;unfold Oper.asks at *;rw [execOp_put oj hsj a oi.dst v g1] at h;exact h
 .rw [if_neg hw] at h ⊢;exact⟨same a _,by rw [<-Act.put_comm a v undef g2];exact h⟩
theorem Dq {i:Nat} {oi:Oper} {v:Value} (hi:ops[i]?=some oi) (hsel:∀(j:Nat) (o:Oper) cs b,ops[j]?=some o->o.op≠ .select cs b) (hQ:∀c a w,Q (.panic c) (a.put oi.dst v) w->Q (.panic c) a w):
 ∀(fuel:Nat) (listed:Array Bool) (a:Act) (w:World),
  (∀j oj,ops[j]?=some oj->j≠i->listed.getD j true=false->(∀e∈oj.after,Region.binds md e=true->e.on≠i)->oi.apart ops oj=true)->
  i∈Region.ready md ops listed->rE P ops oi v a w->iL P md ops Q fuel (listed.setIfInBounds i true) (a.put oi.dst v) w->iL P md ops Q (fuel+1) listed a w:=by
 intro fuel;induction fuel with
 |zero=>
  intro listed a w _ hr hy H x hx
  refine⟨λh=>Abn,λj hj=>?_⟩
  by_cases hji:j=i
  .exact ahX
  .exact Vl
 |succ fuel ih=>
  intro listed a w hfree hr hy H x hx
  refine⟨λh=>Abn,λj hj=>?_⟩
  by_cases hji:j=i
  .exact ahX
  .have h1:=(H x hx).2 j (ready_mono hj hji);open ami in exact aiQ
theorem dP (i:Nat) {oi:Oper} {fuel:Nat} {listed:Array Bool} {a:Act} {w:World} (hi:ops[i]?=some oi) (hs:Region.noSelect ops=true) (hf:Region.free md ops listed i=true) (hr:(Region.ready md ops listed).contains i=true)
 (hQ:∀v c a w,Q (.panic c) (a.put oi.dst v) w->Q (.panic c) a w)
 (h:∀K:Act->Prop,(∀a',iL P md ops Q fuel (listed.setIfInBounds i true) a' w->K a')->if Region.wanted oi (yielded ops a.tmps) then∃v,(∀p:Regrown,Oper.quietUpon P (Ge (Gr w p)) (Gr w p) v ((execOp a.eval oi).run P (Gr w p)))/\K (a.put oi.dst v) else K (a.put oi.dst undef)):
 iL P md ops Q (fuel+1) listed a w:=by
 have h':=h _ λ_ h=>h
 by_cases hw:Region.wanted oi (yielded ops a.tmps)=true
 .rw [if_pos hw] at h';obtain⟨v,hv,hk⟩:=h';refine Dq hi (Region.noSelect_spec hs) (hQ v) fuel listed a w (Region.free_spec hi hf) Abh (.inl ⟨hw,λx hx=>?_⟩) hk;exact aaN
 .rw [if_neg hw] at h';exact Dq hi (Region.noSelect_spec hs) (hQ undef) fuel listed a w (Region.free_spec hi hf) Abh (.inr ⟨Acg,rfl⟩) h'
theorem xw (i:Nat) {oi:Oper} {fuel:Nat} {listed:Array Bool} {a:Act} {w:World} (hi:ops[i]?=some oi) (hr:Region.ready md ops listed=[i]) (hw:Region.wanted oi (yielded ops a.tmps)=true)
 (h:∀x,Ge w x->oi.wp P a x (λa' y=>Ge x y/\iL P md ops Q fuel (listed.setIfInBounds i true) a' y) Q):iL P md ops Q (fuel+1) listed a w:=by
 intro x hx;exact ahe
theorem fE {listed:Array Bool} {a:Act} {w:World} (hr:Region.ready md ops listed=[]) (h:∀x,Ge w x->Q .normal a x):iL P md ops Q 0 listed a w:=⟨hr,h⟩
theorem dz {id:Nat} {a:Act} {w:World} (hm:P.follows .mixedOrders=true) (h:iL P .any ops Q ops.size (Array.replicate ops.size false) a w):(Code.region id ops true).wp P Q a w:=
 wp_region_any hm (AZ _ _ _ _ (GJ (w:=w) (x:={w with drawn:=w.drawn+1}) ⟨rfl,rfl,rfl,Nat.le_refl _,λ_ _=>rfl⟩ h))
end
section
variable {P:Program} {ops:Array Oper} {Q:Exit->Act->World->Prop} {md:Region.Mode} {E:Nat}
def yj (md:Region.Mode) (ops:Array Oper) (j:Nat):List Nat:=match ops[j]? with
 |some o=>(o.after.toList.filter (λe=>Region.binds md e)).map (λe=>e.on)
 |none=>[]
def aAQ (md:Region.Mode) (ops:Array Oper) (S:List Nat):List Nat:=(S++S.flatMap (yj md ops)).eraseDups
def WL (md:Region.Mode) (ops:Array Oper) (E:Nat):Nat->List Nat
 |0=>yj md ops E
 |n+1=>aAQ md ops (WL md ops E n)
def rC (md:Region.Mode) (ops:Array Oper) (L:Array Bool):Prop:=∀j oj,ops[j]?=some oj->L.getD j false=true->∀e∈oj.after,Region.binds md e=true->L.getD e.on false=true
def zC (md:Region.Mode) (ops:Array Oper) (L:Array Bool):Bool:=(List.range ops.size).all λj=> !(L.getD j false)||(yj md ops j).all (λk=>L.getD k false)
theorem yB {j:Nat} {oj:Oper} (hj:ops[j]?=some oj) {k:Nat}:k∈yj md ops j↔∃e∈oj.after,Region.binds md e=true/\e.on=k:=by
 unfold yj;rw [hj];simp only[List.mem_map,List.mem_filter,Array.mem_toList_iff];constructor
 .rintro⟨e,⟨h1,h2⟩,h3⟩;exact⟨e,h1,h2,h3⟩
 .rintro⟨e,h1,h2,h3⟩;exact⟨e,⟨h1,h2⟩,h3⟩
theorem kU {L:Array Bool} (h:zC md ops L=true):rC md ops L:=by
 intro j oj hj hl e he hb;unfold zC at h;rw [List.all_eq_true] at h
 have hjs:j < ops.size:=by
  rcases Nat.lt_or_ge j ops.size with h'|h'
  .exact h'
  .rw [Array.getElem?_eq_none h'] at hj;cases hj
 have h1:=h j (List.mem_range.2 hjs);rw [hl] at h1;simp only[Bool.not_true,Bool.false_or,List.all_eq_true] at h1;exact h1 e.on ((yB hj).2 ⟨e,he,hb,rfl⟩)
theorem EP {L:Array Bool} (hc:rC md ops L) (hE:E∈Region.ready md ops L):∀n,∀k∈WL md ops E n,L.getD k false=true:=by
 obtain⟨_,o,ho,hall⟩:=mem_ready.1 hE;intro n;induction n with
 |zero=>
  intro k hk
  obtain⟨e,he,hb,rfl⟩:=(yB ho).1 hk
  exact hall e he hb
 |succ n ih=>
  intro k hk
  have hk':k∈(WL md ops E n++(WL md ops E n).flatMap (yj md ops)).eraseDups:=hk
  rw [List.mem_eraseDups,List.mem_append,List.mem_flatMap] at hk'
  rcases hk' with h|⟨d,hd,hkd⟩
  .exact ih k h
  .cases hod:ops[d]? with
   |none=>unfold yj at hkd;rw [hod] at hkd;cases hkd
   |some od=>
    obtain⟨e,he,hb,rfl⟩:=(yB hod).1 hkd
    exact hc d od hod (ih d hd) e he hb
theorem EZ {L:Array Bool} {j:Nat} (hc:rC md ops L) (hj:j∈Region.ready md ops L):rC md ops (L.setIfInBounds j true):=by
 obtain⟨_,o,ho,hall⟩:=mem_ready.1 hj;intro k ok hk hl e he hb;by_cases hjk:j=k
 .subst hjk;obtain rfl:=Option.some.inj (ho.symm.trans hk);exact getD_set_true (hall e he hb)
 .rw [getD_set_ne false hjk] at hl;exact getD_set_true (hc k ok hk hl e he hb)
def fD (P:Program) (md:Region.Mode) (ops:Array Oper) (Q:Exit->Act->World->Prop) (E:Nat):Nat->Array Bool->Act->World->Prop
 |0,listed,a,w=>Region.ready md ops listed=[]/\∀x,Ge w x->Q .normal a x
 |fuel+1,listed,a,w=>(Region.ready md ops listed=[E]/\∀x,Ge w x->wpAny P md ops Q (fuel+1) listed a x)\/
  ∀x,Ge w x->(Region.ready md ops listed=[]->Q .normal a x)/\∀i∈Region.ready md ops listed,wpOp P ops Q i (λa' y=>Ge x y/\fD P md ops Q E fuel (listed.setIfInBounds i true) a' y) a x
theorem wI {fuel:Nat} {listed:Array Bool} {a:Act} {w x:World} (hx:Ge w x) (h:fD P md ops Q E fuel listed a w):fD P md ops Q E fuel listed a x:=by
 cases fuel with
 |zero=>exact⟨h.1,λy hy=>h.2 y (Ge.trans hx hy)⟩
 |succ fuel=>
  rcases h with⟨h1,h2⟩|h
  .exact .inl ⟨h1,λy hy=>h2 y (Ge.trans hx hy)⟩
  .exact .inr λy hy=>h y (Ge.trans hx hy)
theorem rX:∀(fuel:Nat) (listed:Array Bool) (a:Act) (w:World),fD P md ops Q E fuel listed a w->wpAny P md ops Q fuel listed a w
 |0,_,_,w,h=>⟨h.1,h.2 w (Below.refl _ _)⟩
 |_+1,_,_,w,.inl h=>h.2 w (Below.refl _ _)
 |fuel+1,_,_,w,.inr h=>⟨(h w (Below.refl _ _)).1,λi hi=>wpOp_mono (λa' y hy=>rX fuel _ a' y hy.2) ((h w (Below.refl _ _)).2 i hi)⟩
theorem Bb {i:Nat} {oi:Oper} {v:Value} (n:Nat) (hi:ops[i]?=some oi) (hE:i∈WL md ops E n) (hsel:∀(j:Nat) (o:Oper) cs b,ops[j]?=some o->o.op≠ .select cs b) (hQ:∀c a w,Q (.panic c) (a.put oi.dst v) w->Q (.panic c) a w):
 ∀(fuel:Nat) (listed:Array Bool) (a:Act) (w:World),rC md ops listed->
  (∀j oj,ops[j]?=some oj->j≠i->listed.getD j true=false->(∀e∈oj.after,Region.binds md e=true->e.on≠i)->oi.apart ops oj=true)->
  i∈Region.ready md ops listed->rE P ops oi v a w->fD P md ops Q E fuel (listed.setIfInBounds i true) (a.put oi.dst v) w->fD P md ops Q E (fuel+1) listed a w:=by
 intro fuel;induction fuel with
 |zero=>
  intro listed a w _ _ hr hy H
  refine .inr λx hx=>⟨λh=>Abn,λj hj=>?_⟩
  by_cases hji:j=i
  .exact ahU
  .exact Vl
 |succ fuel ih=>
  intro listed a w hcl hfree hr hy H
  refine .inr λx hx=>⟨λh=>Abn,λj hj=>?_⟩
  by_cases hji:j=i
  .exact ahU
  .rcases H with⟨h1,_⟩|H
   .exfalso
    have h2:=ready_mono hj hji;rw [h1] at h2;obtain rfl:j=E:=by simpa using h2
    have h3:=EP hcl hj n i hE;have h4:=(mem_ready.1 hr).1;rcases Nat.lt_or_ge i listed.size with h'|h'
    .simp[h'] at h3 h4;rw [h4] at h3;cases h3
    .simp[Array.getElem?_eq_none h'] at h3
   .have h1:=(H x hx).2 j (ready_mono hj hji);exact axf
theorem Dn (i n:Nat) {oi:Oper} {fuel:Nat} {listed:Array Bool} {a:Act} {w:World} (hi:ops[i]?=some oi) (hs:Region.noSelect ops=true) (hf:Region.free md ops listed i=true) (hr:(Region.ready md ops listed).contains i=true)
 (hcl:zC md ops listed=true) (hE:(WL md ops E n).contains i=true)
 (hQ:∀v c a w,Q (.panic c) (a.put oi.dst v) w->Q (.panic c) a w)
 (h:∀K:Act->Prop,(∀a',fD P md ops Q E fuel (listed.setIfInBounds i true) a' w->K a')->if Region.wanted oi (yielded ops a.tmps) then∃v,(∀p:Regrown,Oper.quietUpon P (Ge (Gr w p)) (Gr w p) v ((execOp a.eval oi).run P (Gr w p)))/\K (a.put oi.dst v) else K (a.put oi.dst undef)):
 fD P md ops Q E (fuel+1) listed a w:=by
 have h':=h _ λ_ h=>h
 have hE':i∈WL md ops E n:=Acm
 by_cases hw:Region.wanted oi (yielded ops a.tmps)=true
 .rw [if_pos hw] at h';obtain⟨v,hv,hk⟩:=h';refine Bb n hi hE' (Region.noSelect_spec hs) (hQ v) fuel listed a w (kU hcl) (Region.free_spec hi hf) Abh (.inl ⟨hw,λx hx=>?_⟩) hk;exact aaN
 .rw [if_neg hw] at h';exact Bb n hi hE' (Region.noSelect_spec hs) (hQ undef) fuel listed a w (kU hcl) (Region.free_spec hi hf) Abh (.inr ⟨Acg,rfl⟩) h'
theorem dM (i:Nat) {oi:Oper} {fuel:Nat} {listed:Array Bool} {a:Act} {w:World} (hi:ops[i]?=some oi) (hr:Region.ready md ops listed=[i]) (hw:Region.wanted oi (yielded ops a.tmps)=true)
 (h:∀x,Ge w x->oi.wp P a x (λa' y=>Ge x y/\fD P md ops Q E fuel (listed.setIfInBounds i true) a' y) Q):fD P md ops Q E (fuel+1) listed a w:=by
 refine .inr λx hx=>?_
 exact ahe
theorem yV (i j:Nat) {oi oj:Oper} {fuel:Nat} {listed:Array Bool} {a:Act} {w:World} (hi:ops[i]?=some oi) (hj:ops[j]?=some oj) (hr:Region.ready md ops listed=[i,j]) (hwi:Region.wanted oi (yielded ops a.tmps)=true) (hwj:Region.wanted oj (yielded ops a.tmps)=true)
 (h1:∀x,Ge w x->oi.wp P a x (λa' y=>Ge x y/\fD P md ops Q E fuel (listed.setIfInBounds i true) a' y) Q)
 (h2:∀x,Ge w x->oj.wp P a x (λa' y=>Ge x y/\fD P md ops Q E fuel (listed.setIfInBounds j true) a' y) Q):fD P md ops Q E (fuel+1) listed a w:=by
 refine .inr λx hx=>?_
 rw [hr];refine⟨λh=>Aar,λk hk=>?_⟩;have hk':k=i\/k=j:=Ach
 rcases hk' with rfl|rfl
 .exact aaG
 .exact aaH
theorem bf {fuel:Nat} {listed:Array Bool} {a:Act} {w:World} (hr:Region.ready md ops listed=[E]) (h:∀x,Ge w x->wpAny P md ops Q (fuel+1) listed a x):fD P md ops Q E (fuel+1) listed a w:= .inl ⟨hr,h⟩
theorem aF (i:Nat) {oi:Oper} {fuel:Nat} {listed:Array Bool} {a:Act} {w:World} (hi:ops[i]?=some oi) (hr:Region.ready md ops listed=[i]) (hw:Region.wanted oi (yielded ops a.tmps)=true)
 (h:oi.wp P a w (wpAny P md ops Q fuel (listed.setIfInBounds i true)) Q):wpAny P md ops Q (fuel+1) listed a w:=by
 refine⟨λh=>(by rw [hr] at h;cases h),λj hj=>?_⟩;rw [hr] at hj;obtain rfl:j=i:=Abd
 unfold wpOp;simp only[hi];rw [if_pos hw];exact .inl h
theorem wpAny_done {listed:Array Bool} {a:Act} {w:World} (hr:Region.ready md ops listed=[]) (h:Q .normal a w):wpAny P md ops Q 0 listed a w:=⟨hr,h⟩
theorem bZ (i:Nat) {oi:Oper} {fuel:Nat} {listed:Array Bool} {a:Act} {w:World} (hi:ops[i]?=some oi) (hs:Region.noSelect ops=true) (hf:Region.free md ops listed i=true) (hr:(Region.ready md ops listed).contains i=true)
 (hQ:∀v c a w,Q (.panic c) (a.put oi.dst v) w->Q (.panic c) a w)
 (h:∀K:Act->Prop,(∀a',wpAny P md ops Q fuel (listed.setIfInBounds i true) a' w->K a')->if Region.wanted oi (yielded ops a.tmps) then∃v,(∀x:World,(execOp a.eval oi).run P x= .ok (.value v) x)/\K (a.put oi.dst v) else K (a.put oi.dst undef)):
 wpAny P md ops Q (fuel+1) listed a w:=by
 have h':=h _ λ_ h=>h
 by_cases hw:Region.wanted oi (yielded ops a.tmps)=true
 .rw [if_pos hw] at h';obtain⟨v,hv,hk⟩:=h';exact wpAny_take hi hs hf hr (hQ v) (.inl ⟨hw,hv⟩) hk
 .rw [if_neg hw] at h';exact wpAny_take hi hs hf hr (hQ undef) (.inr ⟨Acg,rfl⟩) h'
def uX (P:Program) (md:Region.Mode) (ops:Array Oper) (Q:Exit->Act->World->Prop) (fuel:Nat) (listed:Array Bool) (a:Act) (w:World):Prop:=∀x,Ge w x->wpAny P md ops Q fuel listed a x
theorem pO (i:Nat) {oi:Oper} {fuel:Nat} {listed:Array Bool} {a:Act} {w:World} (hi:ops[i]?=some oi) (hs:Region.noSelect ops=true) (hf:Region.free md ops listed i=true) (hr:(Region.ready md ops listed).contains i=true)
 (hQ:∀v c a w,Q (.panic c) (a.put oi.dst v) w->Q (.panic c) a w)
 (h:∀K:Act->Prop,(∀a',uX P md ops Q fuel (listed.setIfInBounds i true) a' w->K a')->if Region.wanted oi (yielded ops a.tmps) then∃v,(∀x:World,(execOp a.eval oi).run P x= .ok (.value v) x)/\K (a.put oi.dst v) else K (a.put oi.dst undef)):
 uX P md ops Q (fuel+1) listed a w:=by
 have h':=h _ λ_ h=>h
 intro x hx;by_cases hw:Region.wanted oi (yielded ops a.tmps)=true
 .rw [if_pos hw] at h';obtain⟨v,hv,hk⟩:=h';exact wpAny_take hi hs hf hr (hQ v) (.inl ⟨hw,hv⟩) (hk x hx)
 .rw [if_neg hw] at h';exact wpAny_take hi hs hf hr (hQ undef) (.inr ⟨Acg,rfl⟩) (h' x hx)
theorem rQ (E:Nat) {fuel:Nat} {listed:Array Bool} {a:Act} {w:World} (h:fD P md ops Q E fuel listed a w):uX P md ops Q fuel listed a w:=λ_ hx=>rX _ _ _ _ (wI hx h)
theorem kN {id:Nat} {a:Act} {w:World} (hm:P.follows .mixedOrders=true) (h:uX P .any ops Q ops.size (Array.replicate ops.size false) a w):(Code.region id ops true).wp P Q a w:=
 wp_region_any hm (h {w with drawn:=w.drawn+1} ⟨rfl,rfl,rfl,Nat.le_refl _,λ_ _=>rfl⟩)
theorem bV (E:Nat) {id:Nat} {a:Act} {w:World} (hm:P.follows .mixedOrders=true) (h:fD P .any ops Q E ops.size (Array.replicate ops.size false) a w):(Code.region id ops true).wp P Q a w:=
 wp_region_any hm (rX _ _ _ _ (wI (w:=w) (x:={w with drawn:=w.drawn+1}) ⟨rfl,rfl,rfl,Nat.le_refl _,λ_ _=>rfl⟩ h))
end
section
variable {P:Program} {ops:Array Oper} {Q:Exit->Act->World->Prop} {md:Region.Mode} {E:Nat}
def lH (P:Program) (md:Region.Mode) (ops:Array Oper) (Q:Exit->Act->World->Prop) (E:Nat):Nat->Array Bool->Act->World->Prop
 |0,listed,a,w=>Region.ready md ops listed=[]/\∀x,Ge w x->Q .normal a x
 |fuel+1,listed,a,w=>∀x,Ge w x->(Region.ready md ops listed=[]->Q .normal a x)/\∀i∈Region.ready md ops listed,
  (i=E->wpOp P ops Q i (λa' y=>wpAny P md ops Q fuel (listed.setIfInBounds i true) a' y) a x)/\
  (i≠E->wpOp P ops Q i (λa' y=>Ge x y/\lH P md ops Q E fuel (listed.setIfInBounds i true) a' y) a x)
theorem Dp {fuel:Nat} {listed:Array Bool} {a:Act} {w x:World} (hx:Ge w x) (h:lH P md ops Q E fuel listed a w):lH P md ops Q E fuel listed a x:=by
 exact aja
theorem xV:∀(fuel:Nat) (listed:Array Bool) (a:Act) (w:World),lH P md ops Q E fuel listed a w->wpAny P md ops Q fuel listed a w
 |0,_,_,w,h=>⟨h.1,h.2 w (Below.refl _ _)⟩
 |fuel+1,_,_,w,h=>⟨(h w (Below.refl _ _)).1,λi hi=>by
  by_cases hE:i=E
  .exact((h w (Below.refl _ _)).2 i hi).1 hE
  .exact wpOp_mono (λa' y hy=>xV fuel _ a' y hy.2) (((h w (Below.refl _ _)).2 i hi).2 hE)⟩
theorem Bc {i:Nat} {oi:Oper} {v:Value} (n:Nat) (hi:ops[i]?=some oi) (hE:i∈WL md ops E n) (hsel:∀(j:Nat) (o:Oper) cs b,ops[j]?=some o->o.op≠ .select cs b) (hQ:∀c a w,Q (.panic c) (a.put oi.dst v) w->Q (.panic c) a w):
 ∀(fuel:Nat) (listed:Array Bool) (a:Act) (w:World),rC md ops listed->
  (∀j oj,ops[j]?=some oj->j≠i->listed.getD j true=false->(∀e∈oj.after,Region.binds md e=true->e.on≠i)->oi.apart ops oj=true)->
  i∈Region.ready md ops listed->rE P ops oi v a w->lH P md ops Q E fuel (listed.setIfInBounds i true) (a.put oi.dst v) w->lH P md ops Q E (fuel+1) listed a w:=by
 open arC in exact afF
theorem aip (i n:Nat) {oi:Oper} {fuel:Nat} {listed:Array Bool} {a:Act} {w:World} (hi:ops[i]?=some oi) (hs:Region.noSelect ops=true) (hf:Region.free md ops listed i=true) (hr:(Region.ready md ops listed).contains i=true)
 (hcl:zC md ops listed=true) (hE:(WL md ops E n).contains i=true)
 (hQ:∀v c a w,Q (.panic c) (a.put oi.dst v) w->Q (.panic c) a w)
 (h:∀K:Act->Prop,(∀a',lH P md ops Q E fuel (listed.setIfInBounds i true) a' w->K a')->if Region.wanted oi (yielded ops a.tmps) then∃v,(∀p:Regrown,Oper.quietUpon P (Ge (Gr w p)) (Gr w p) v ((execOp a.eval oi).run P (Gr w p)))/\K (a.put oi.dst v) else K (a.put oi.dst undef)):
 lH P md ops Q E (fuel+1) listed a w:=by
 have h':=h _ λ_ h=>h
 have hE':i∈WL md ops E n:=Acm
 by_cases hw:Region.wanted oi (yielded ops a.tmps)=true
 .rw [if_pos hw] at h';obtain⟨v,hv,hk⟩:=h';refine Bc n hi hE' (Region.noSelect_spec hs) (hQ v) fuel listed a w (kU hcl) (Region.free_spec hi hf) Abh (.inl ⟨hw,λx hx=>?_⟩) hk;exact aaN
 .rw [if_neg hw] at h';exact Bc n hi hE' (Region.noSelect_spec hs) (hQ undef) fuel listed a w (kU hcl) (Region.free_spec hi hf) Abh (.inr ⟨Acg,rfl⟩) h'
theorem Uz (i:Nat) {oi:Oper} {fuel:Nat} {listed:Array Bool} {a:Act} {w:World} (hi:ops[i]?=some oi) (hr:Region.ready md ops listed=[i]) (hw:Region.wanted oi (yielded ops a.tmps)=true) (hiE:i≠E)
 (h:∀x,Ge w x->oi.wp P a x (λa' y=>Ge x y/\lH P md ops Q E fuel (listed.setIfInBounds i true) a' y) Q):lH P md ops Q E (fuel+1) listed a w:=by
 exact axR
theorem jL (i:Nat) {oi oj:Oper} {fuel:Nat} {listed:Array Bool} {a:Act} {w:World} (hi:ops[i]?=some oi) (hj:ops[E]?=some oj) (hr:Region.ready md ops listed=[i,E]) (hwi:Region.wanted oi (yielded ops a.tmps)=true) (hwj:Region.wanted oj (yielded ops a.tmps)=true) (hiE:i≠E)
 (h1:∀x,Ge w x->oi.wp P a x (λa' y=>Ge x y/\lH P md ops Q E fuel (listed.setIfInBounds i true) a' y) Q)
 (h2:∀x,Ge w x->oj.wp P a x (wpAny P md ops Q fuel (listed.setIfInBounds E true)) Q):lH P md ops Q E (fuel+1) listed a w:=by
 intro x hx;rw [hr];refine⟨λh=>Aar,λk hk=>?_⟩;have hk':k=i\/k=E:=Ach
 rcases hk' with rfl|rfl
 .refine⟨λe=>absurd e hiE,λ_=>?_⟩;exact aaG
 .refine⟨λ_=>?_,λe=>absurd rfl e⟩;exact aaH
theorem Bd {fuel:Nat} {listed:Array Bool} {a:Act} {w:World} (hr:Region.ready md ops listed=[E]) (h:∀x,Ge w x->wpAny P md ops Q (fuel+1) listed a x):lH P md ops Q E (fuel+1) listed a w:=λx hx=>⟨(h x hx).1,λi hi=>⟨λ_=>(h x hx).2 i hi,λhne=>absurd (by rw [hr] at hi;simpa using hi) hne⟩⟩
theorem wJ (E:Nat) {id:Nat} {a:Act} {w:World} (hm:P.follows .mixedOrders=true) (h:lH P .any ops Q E ops.size (Array.replicate ops.size false) a w):(Code.region id ops true).wp P Q a w:=
 wp_region_any hm (xV _ _ _ _ (Dp (w:=w) (x:={w with drawn:=w.drawn+1}) ⟨rfl,rfl,rfl,Nat.le_refl _,λ_ _=>rfl⟩ h))
end
section
variable {P:Program} {ops:Array Oper} {Q:Exit->Act->World->Prop} {md:Region.Mode} {E b:Nat}
def jD (P:Program) (md:Region.Mode) (ops:Array Oper) (Q:Exit->Act->World->Prop) (E b:Nat):Nat->Array Bool->Act->World->Prop
 |0,listed,a,w=>Region.ready md ops listed=[]/\∀x,Ge w x->Q .normal a x
 |fuel+1,listed,a,w=>∀x,Ge w x->(Region.ready md ops listed=[]->Q .normal a x)/\∀i∈Region.ready md ops listed,
  (i=E->wpOp P ops Q i (λa' y=>wpAny P md ops Q fuel (listed.setIfInBounds i true) a' y) a x)/\
  (i≠E->wpOp P ops Q i (λa' y=>Below b x y/\jD P md ops Q E b fuel (listed.setIfInBounds i true) a' y) a x)
theorem Dl {fuel:Nat} {listed:Array Bool} {a:Act} {w x:World} (hx:Ge w x) (h:jD P md ops Q E b fuel listed a w):jD P md ops Q E b fuel listed a x:=by
 exact aja
theorem xU:∀(fuel:Nat) (listed:Array Bool) (a:Act) (w:World),jD P md ops Q E b fuel listed a w->wpAny P md ops Q fuel listed a w
 |0,_,_,w,h=>⟨h.1,h.2 w (Below.refl _ _)⟩
 |fuel+1,_,_,w,h=>⟨(h w (Below.refl _ _)).1,λi hi=>by
  by_cases hE:i=E
  .exact((h w (Below.refl _ _)).2 i hi).1 hE
  .exact wpOp_mono (λa' y hy=>xU fuel _ a' y hy.2) (((h w (Below.refl _ _)).2 i hi).2 hE)⟩
def El (P:Program) (ops:Array Oper) (b:Nat) (o:Oper) (v:Value) (a:Act) (w:World):Prop:=
 (Region.wanted o (yielded ops a.tmps)=true/\∀x,Below b w x->Oper.quietUpon P (Ge x) x v ((execOp a.eval o).run P x))\/(Region.wanted o (yielded ops a.tmps)=false/\v=undef)
theorem El.toG {o:Oper} {v:Value} {a:Act} {w:World} (h:El P ops b o v a w) (hb:b<=w.heap.size):rE P ops o v a w:=h.imp (fun⟨p,q⟩=>⟨p,λx hx=>q x (hx.mono hb)⟩) id
theorem Ba {i:Nat} {oi:Oper} {v:Value} (n:Nat) (hi:ops[i]?=some oi) (hE:i∈WL md ops E n) (hsel:∀(j:Nat) (o:Oper) cs b,ops[j]?=some o->o.op≠ .select cs b) (hQ:∀c a w,Q (.panic c) (a.put oi.dst v) w->Q (.panic c) a w):
 ∀(fuel:Nat) (listed:Array Bool) (a:Act) (w:World),b<=w.heap.size->rC md ops listed->
  (∀j oj,ops[j]?=some oj->j≠i->listed.getD j true=false->(∀e∈oj.after,Region.binds md e=true->e.on≠i)->oi.apart ops oj=true)->
  i∈Region.ready md ops listed->El P ops b oi v a w->jD P md ops Q E b fuel (listed.setIfInBounds i true) (a.put oi.dst v) w->jD P md ops Q E b (fuel+1) listed a w:=by
 open arD in exact afF
structure Und (b:Nat) (w:World) where
 x:World
 h:Below b w x
theorem dB {b:Nat} {w:World} {g i:Nat} {v:Option Value} (hg:g < b) (h:w.cell? ⟨g,i,none⟩=v):∀p:Und b w,p.x.cell? ⟨g,i,none⟩=v:=λp=>(p.h.cell (p:=⟨g,i,none⟩) hg).trans h
theorem aio (i n:Nat) {oi:Oper} {fuel:Nat} {listed:Array Bool} {a:Act} {w:World} (hb:b<=w.heap.size) (hi:ops[i]?=some oi) (hs:Region.noSelect ops=true) (hf:Region.free md ops listed i=true) (hr:(Region.ready md ops listed).contains i=true)
 (hcl:zC md ops listed=true) (hE:(WL md ops E n).contains i=true)
 (hQ:∀v c a w,Q (.panic c) (a.put oi.dst v) w->Q (.panic c) a w)
 (h:∀K:Act->Prop,(∀a',jD P md ops Q E b fuel (listed.setIfInBounds i true) a' w->K a')->if Region.wanted oi (yielded ops a.tmps) then∃v,(∀p:Und b w,Oper.quietUpon P (Ge p.x) p.x v ((execOp a.eval oi).run P p.x))/\K (a.put oi.dst v) else K (a.put oi.dst undef)):
 jD P md ops Q E b (fuel+1) listed a w:=by
 have h':=h _ λ_ h=>h
 have hE':i∈WL md ops E n:=Acm
 by_cases hw:Region.wanted oi (yielded ops a.tmps)=true
 .rw [if_pos hw] at h';obtain⟨v,hv,hk⟩:=h';exact Ba n hi hE' (Region.noSelect_spec hs) (hQ v) fuel listed a w hb (kU hcl) (Region.free_spec hi hf) Abh (.inl ⟨hw,λx hx=>hv ⟨x,hx⟩⟩) hk
 .rw [if_neg hw] at h';exact Ba n hi hE' (Region.noSelect_spec hs) (hQ undef) fuel listed a w hb (kU hcl) (Region.free_spec hi hf) Abh (.inr ⟨Acg,rfl⟩) h'
theorem fC (i:Nat) {oi:Oper} {fuel:Nat} {listed:Array Bool} {a:Act} {w:World} (hi:ops[i]?=some oi) (hr:Region.ready md ops listed=[i]) (hw:Region.wanted oi (yielded ops a.tmps)=true) (hiE:i≠E)
 (h:∀x,Ge w x->oi.wp P a x (λa' y=>Below b x y/\jD P md ops Q E b fuel (listed.setIfInBounds i true) a' y) Q):jD P md ops Q E b (fuel+1) listed a w:=by
 exact axR
theorem iU (i j:Nat) {oi oj:Oper} {fuel:Nat} {listed:Array Bool} {a:Act} {w:World} (hi:ops[i]?=some oi) (hj:ops[j]?=some oj) (hr:Region.ready md ops listed=[i,j]) (hwi:Region.wanted oi (yielded ops a.tmps)=true) (hwj:Region.wanted oj (yielded ops a.tmps)=true) (hiE:i≠E) (hjE:j≠E)
 (h1:∀x,Ge w x->oi.wp P a x (λa' y=>Below b x y/\jD P md ops Q E b fuel (listed.setIfInBounds i true) a' y) Q)
 (h2:∀x,Ge w x->oj.wp P a x (λa' y=>Below b x y/\jD P md ops Q E b fuel (listed.setIfInBounds j true) a' y) Q):jD P md ops Q E b (fuel+1) listed a w:=by
 intro x hx;rw [hr];refine⟨λh=>Aar,λk hk=>?_⟩;have hk':k=i\/k=j:=Ach
 rcases hk' with rfl|rfl
 .refine⟨λe=>absurd e hiE,λ_=>?_⟩;exact aaG
 .refine⟨λe=>absurd e hjE,λ_=>?_⟩;exact aaH
theorem nN {fuel:Nat} {listed:Array Bool} {a:Act} {w:World} (hr:Region.ready md ops listed=[E]) (h:∀x,Ge w x->wpAny P md ops Q (fuel+1) listed a x):jD P md ops Q E b (fuel+1) listed a w:=λx hx=>⟨(h x hx).1,λi hi=>⟨λ_=>(h x hx).2 i hi,λhne=>absurd (by rw [hr] at hi;simpa using hi) hne⟩⟩
theorem kQ (E b:Nat) {id:Nat} {a:Act} {w:World} (hm:P.follows .mixedOrders=true) (h:jD P .any ops Q E b ops.size (Array.replicate ops.size false) a w):(Code.region id ops true).wp P Q a w:=
 wp_region_any hm (xU (E:=E) (b:=b) _ _ _ _ (Dl (w:=w) (x:={w with drawn:=w.drawn+1}) ⟨rfl,rfl,rfl,Nat.le_refl _,λ_ _=>rfl⟩ h))
end
section
variable {P:Program} {ops:Array Oper} {Q:Exit->Act->World->Prop} {md:Region.Mode} {E b:Nat} {is:List Nat} {i:Nat} {oi:Oper} {fuel:Nat} {listed:Array Bool} {a:Act} {w:World}
end
set_option maxRecDepth 100000
open Go.RowKit Go.Extern.Stop Go.Stop Go.Extern
structure iH (w:World) (E:Nat->Addr):Prop where
 var:∀i,i < 5->w.cell? ⟨i,0,none⟩=some (.iface 338 (.pointer (some (E i))))
 row:∀i,i < 5->∃c t,w.heap[(E i).block]?=some (.cells c t (0,0))
 ne:∀i j,i < 5->j < 5->i≠j->E i≠E j
theorem iH.below {w w':World} {E:Nat->Addr} (h:iH w E) (hb:aY w w'):iH w' E:=by
 refine⟨λi hi=>?_,λi hi=>?_,h.ne⟩
 .rw [hb.cell (p:=⟨i,0,none⟩) (World.block_lt_of_cell? _ _ (h.var i hi))];exact h.var i hi
 .obtain⟨c,t,hc⟩:=h.row i hi;refine⟨c,t,?_⟩;rw [hb.block _ ?_]
  .exact hc
  .rcases Nat.lt_or_ge (E i).block w.heap.size with h'|h'
   .exact h'
   .rw [Array.getElem?_eq_none h'] at hc;cases hc
abbrev uw (a:Addr):Value:= .iface 338 (.pointer (some a))
namespace Is
theorem typeOf (v:Value) (w:World):(Extern.ReflectliteType.typeOf #[.iface 338 v]).run Tryz.prog w= .ok (.iface 317 (.agg #[.pointer (some ⟨6,338,none⟩)])) w:=Aab
def cmp:Array Value->Sem Value:=Extern.ReflectliteType.method λt=>do Extern.Rtype.noPackHeld "Comparable" t;pure (.bool (<-typeInfo t).comparable)
theorem comparable (w:World):(cmp #[.agg #[.pointer (some ⟨6,338,none⟩)]]).run Tryz.prog w= .ok (.bool true) w:=Aab
theorem methodComparable (v:Value) (w:World):(Go.method 467 317 v "Comparable").run Tryz.prog w= .ok (309,v) w:=Aab
theorem comp:(Tryz.prog.info? 338).map (·.comparable)=some true:=Aab
theorem size:(Tryz.prog.info? 356).map (·.size)=some 1:=Aab
theorem noIs (v:Value) (xT:TypeId) (w:World):(Instr.typeAssert (.iface 338 v) xT 332 true).run Tryz.prog w= .ok (.tuple #[.nilIface,.bool false]) w:=run_typeAssert_lacksB Tryz.underlying332 Aab Aab v xT w
theorem noUnwrap (v:Value) (xT:TypeId) (w:World):(Instr.typeAssert (.iface 338 v) xT 324 true).run Tryz.prog w= .ok (.tuple #[.nilIface,.bool false]) w:=run_typeAssert_lacksB Tryz.underlying324 Aab Aab v xT w
theorem noUnwraps (v:Value) (xT:TypeId) (w:World):(Instr.typeAssert (.iface 338 v) xT 326 true).run Tryz.prog w= .ok (.tuple #[.nilIface,.bool false]) w:=run_typeAssert_lacksB Tryz.underlying326 Aab Aab v xT w
end Is
theorem aeo (a:Addr) (w:World):Calls Tryz.prog 250 #[uw a,uw a] w λe w'=>e= .returned (.bool true)/\w=w':=by
 open apP in exact afd
theorem ajP (b:Addr) (w:World):Calls Tryz.prog 250 #[.nilIface,uw b] w λe w'=>e= .returned (.bool false)/\w=w':=by
 have hn:=run_eql_iface_nil_left (P:=Tryz.prog) w 338 (.pointer (some b)) Tryz.underlying248;go_in
 go_wp2
 go_ret;exact⟨rfl,rfl⟩
theorem abX (a b:Addr) (ca cb:Array Value) (ta tb:TypeId) (w:World) (hne:a≠b) (ha:w.heap[a.block]?=some (.cells ca ta (0,0))) (hb:w.heap[b.block]?=some (.cells cb tb (0,0))):
 Calls Tryz.prog 250 #[uw a,uw b] w λe w'=>e= .returned (.bool false)/\w=w':=by
 open apO in exact afd
theorem aia {w:World} {E:Nat->Addr} (h:iH w E) (i j:Nat) (b:Bool) (hi:i < 5) (hj:j < 5) (hb:(i == j)=b):Calls Tryz.prog 250 #[uw (E i),uw (E j)] w λe w'=>e= .returned (.bool b)/\w=w':=by
 cases b with
 |true=>
  have e:i=j:=by simpa using hb
  subst e
  exact aeo (E i) w
 |false=>
  obtain⟨c1,t1,h1⟩:=h.row i hi
  obtain⟨c2,t2,h2⟩:=h.row j hj
  exact abX (E i) (E j) c1 c2 t1 t2 w (h.ne i j hi hj (by simpa using hb)) h1 h2
set_option maxHeartbeats 2000000
theorem Iu {w:World} {E:Nat->Addr} (h:iH w E):Calls Tryz.prog 226 #[.nilIface] w λe w'=>e= .returned (.bool false)/\w=w':=by
 have v0:=h.var 0 Aaa;have v1:=h.var 1 Aaa;have v2:=h.var 2 Aaa;have v3:=h.var 3 Aaa;have v4:=h.var 4 Aaa;have HE:=Hq h;clear h;go_in
 go_wp2_with (go_at_call 250;refine(ajP _ _).mono ?_;rintro e w1 ⟨rfl,rfl⟩)
 go_ret;exact⟨rfl,rfl⟩
theorem Mc {w:World} {E:Nat->Addr} (h:iH w E) (i:Nat) (hi:i < 5):Calls Tryz.prog 226 #[uw (E i)] w λe w'=>e= .returned (.bool true)/\w=w':=by
 have v0:=h.var 0 Aaa;have v1:=h.var 1 Aaa;have v2:=h.var 2 Aaa;have v3:=h.var 3 Aaa;have v4:=h.var 4 Aaa;have HE:=Hq h;clear h;match i,hi with
 |0,_|1,_|2,_|3,_|4,_=>
  go_in
  go_wp2_with (go_at_call 250;first|(refine(aia HE _ _ true Aaa Aaa Aae).mono ?_;rintro e w1 ⟨rfl,rfl⟩)|(refine(aia HE _ _ false Aaa Aaa Aae).mono ?_;rintro e w1 ⟨rfl,rfl⟩))
  go_ret
  exact⟨rfl,rfl⟩
end Go.Proofs.YtacgbldlonoaaaaGreatDoor
namespace Go.Proofs
open Go.Shelf YtacgbldlonoaaaaGreatDoor
def Tryz.keysL_ren:Go.Shelf.Ren:=⟨fun|7=>234|10=>253|n=>n,fun|23=>259|26=>3|3=>262|28=>268|0=>0|27=>267|33=>101|4=>4|n=>n,fun|n=>n⟩
theorem Tryz.keysL:Go.Proofs.SlLaysZI.n7 Tryz.prog Tryz.keysL_ren:={
 mixed:=Aab
 f7:=⟨Tryz.f234.name,Aae,Tryz.func234.trans (congrArg some Aab)⟩
 f10:=⟨Tryz.f253.name,Aae,Tryz.func253.trans (congrArg some Aab)⟩
 t0:=Tryz.underlying0
 a0:=Tryz.isAgg0
 z0:=Tryz.sizeOf0
 v0:=Tryz.zeroValue0
 t4:=Tryz.underlying4
 a4:=Tryz.isAgg4
 z4:=Tryz.sizeOf4
 v4:=Tryz.zeroValue4
 t23:=Tryz.underlying259
 a23:=Tryz.isAgg259
 z23:=Tryz.sizeOf259
 v23:=Tryz.zeroValue259
 t26:=Tryz.underlying3
 a26:=Tryz.isAgg3
 z26:=Tryz.sizeOf3
 v26:=Tryz.zeroValue3
 t27:=Tryz.underlying267
 a27:=Tryz.isAgg267
 z27:=Tryz.sizeOf267
 v27:=Tryz.zeroValue267
 t28:=Tryz.underlying268
 a28:=Tryz.isAgg268
 z28:=Tryz.sizeOf268
 v28:=Tryz.zeroValue268
 t33:=Tryz.underlying101
 a33:=Tryz.isAgg101
 z33:=Tryz.sizeOf101
 v33:=Tryz.zeroValue101}
def Tryz.sortedL_ren:Go.Shelf.Ren:=⟨fun|6=>233|8=>252|9=>123|11=>266|13=>175|12=>174|23=>210|24=>211|14=>201|15=>202|16=>203|17=>204|18=>205|19=>206|20=>207|21=>208|22=>209|25=>235|26=>236|27=>237|28=>238|29=>239|30=>240|31=>254|n=>n,fun|26=>3|28=>268|24=>24|0=>0|3=>3|37=>203|48=>168|50=>243|4=>4|40=>235|39=>234|45=>195|5=>5|9=>9|51=>270|55=>274|57=>290|58=>209|33=>101|n=>n,fun|n=>n⟩
theorem Tryz.sortedL:Go.Proofs.SlLaysZI.n6 Tryz.prog Tryz.sortedL_ren:={
 mixed:=Aab
 f6:=⟨Tryz.f233.name,Aae,Tryz.func233.trans (congrArg some Aab)⟩
 f8:=⟨Tryz.f252.name,Aae,Tryz.func252.trans (congrArg some Aab)⟩
 f11:=⟨Tryz.f266.name,Aae,Tryz.func266.trans (congrArg some Aab)⟩
 t0:=Tryz.underlying0
 a0:=Tryz.isAgg0
 z0:=Tryz.sizeOf0
 v0:=Tryz.zeroValue0
 t24:=Tryz.underlying24
 a24:=Tryz.isAgg24
 z24:=Tryz.sizeOf24
 v24:=Tryz.zeroValue24
 t26:=Tryz.underlying3
 a26:=Tryz.isAgg3
 z26:=Tryz.sizeOf3
 v26:=Tryz.zeroValue3
 t28:=Tryz.underlying268
 a28:=Tryz.isAgg268
 z28:=Tryz.sizeOf268
 v28:=Tryz.zeroValue268
 i26:=by kernel_rfl}
end Go.Proofs
namespace Go.Proofs.YtacgbldlonoaaaaGreatDoor
open Go.Proofs.Tryz
set_option maxHeartbeats 2000000
set_option maxRecDepth 100000
open Go.RowKit Go.Extern.Stop Go.Stop Go.Extern
namespace As
theorem noAs (v:Value) (xT:TypeId) (w:World):(Instr.typeAssert (.iface 279 v) xT 321 true).run Tryz.prog w= .ok (.tuple #[.nilIface,.bool false]) w:=run_typeAssert_lacksB Tryz.underlying321 Aab Aab v xT w
theorem hasUnwrap (v:Value) (xT:TypeId) (w:World):(Instr.typeAssert (.iface 279 v) xT 324 true).run Tryz.prog w= .ok (.tuple #[.iface 279 v,.bool true]) w:=run_typeAssert_hasB Tryz.underlying324 Aab v xT w
def no (p:Int):Value:= .iface 281 (.agg #[.int .i64 p])
def un (e:Value):Value:= .iface 279 (.agg #[e])
end As
theorem World.lt_of_cell {w:World} {a:Addr} {v:Value} (h:w.cell? a=some v):a.block < w.heap.size:=by
 rcases Nat.lt_or_ge a.block w.heap.size with h'|h'
 .exact h'
 .simp[World.cell?,Array.getElem?_eq_none h'] at h
theorem ajd (p:Int) (tg:Value) (t a:Addr) (old:Value) (w:World) (ha:w.cell? a=some (.pointer (some t))) (ht:w.cell? t=some old) (hf:w.frozen? t=false):
 Calls Tryz.prog 258 #[.iface 279 (.agg #[.iface 281 (.agg #[.int .i64 p])]),tg,.agg #[.pointer (some ⟨6,283,none⟩),.pointer (some a),.int .u64 150],.iface 317 (.agg #[.pointer (some ⟨6,281,none⟩)])] w
  λe w'=>e= .returned (.bool true)/\Below t.block w w':=by
 open al2 in exact awk
theorem aje (p:Int) (tg:Value) (t a:Addr) (old:Value) (w:World) (ha:w.cell? a=some (.pointer (some t))) (ht:w.cell? t=some old) (hf:w.frozen? t=false):
 Calls Tryz.prog 258 #[.iface 279 (.agg #[.iface 279 (.agg #[.iface 281 (.agg #[.int .i64 p])])]),tg,.agg #[.pointer (some ⟨6,283,none⟩),.pointer (some a),.int .u64 150],.iface 317 (.agg #[.pointer (some ⟨6,281,none⟩)])] w
  λe w'=>e= .returned (.bool true)/\Below t.block w w':=by
 open al1 in exact awk
set_option maxHeartbeats 2000000
theorem O7 (err:Value) (tb:Nat) (old:Value) (w:World) (hne:∃v,err= .iface 279 v)
 (has:∀(tg:Value) (t a:Addr) (old:Value) (w:World),w.cell? a=some (.pointer (some t))->w.cell? t=some old->w.frozen? t=false->
  Calls Tryz.prog 258 #[err,tg,.agg #[.pointer (some ⟨6,283,none⟩),.pointer (some a),.int .u64 150],.iface 317 (.agg #[.pointer (some ⟨6,281,none⟩)])] w λe w'=>e= .returned (.bool true)/\Below t.block w w')
 (hg:w.cell? ⟨5,0,none⟩=some (.iface 317 (.agg #[.pointer (some ⟨6,248,none⟩)])))
 (ht:w.cell? ⟨tb,0,none⟩=some old) (hf:w.frozen? ⟨tb,0,none⟩=false):
 Calls Tryz.prog 243 #[err,.iface 283 (.pointer (some ⟨tb,0,none⟩))] w λe w'=>e= .returned (.bool true)/\Below tb w w':=by
 obtain⟨v,rfl⟩:=hne;have HAS:=Hq has;clear has;open avE in exact agP
def Handle (w:World):Prop:=w.cell? ⟨5,0,none⟩=some (.iface 317 (.agg #[.pointer (some ⟨6,248,none⟩)]))
theorem Handle.below {w w':World} (h:Handle w) (hb:aY w w'):Handle w':=by
 have hl:=World.lt_of_cell h;unfold Handle;rw [hb.cell (p:=⟨5,0,none⟩) hl];exact h
theorem P7 (w:World):Calls Tryz.prog 217 #[.nilIface] w (fF w (.bool false)):=by
 go_in
 go_wp2_with (go_at_call 243;refine(ajc _ _).mono ?_;rintro e w' ⟨rfl,rfl⟩)
 go_ret;exact⟨rfl,(Below.refl _ _).alloc (Nat.le_refl _) _⟩
theorem P8 (p:Int) (w:World) (h:Handle w):Calls Tryz.prog 217 #[.iface 279 (.agg #[.iface 281 (.agg #[.int .i64 p])])] w (fF w (.bool true)):=by
 open avs in exact agO
theorem abW (p:Int) (w:World) (h:Handle w):Calls Tryz.prog 217 #[.iface 279 (.agg #[.iface 279 (.agg #[.iface 281 (.agg #[.int .i64 p])])])] w (fF w (.bool true)):=by
 open avr in exact agO
end Go.Proofs.YtacgbldlonoaaaaGreatDoor
