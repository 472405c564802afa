/- Parts. -/
import Derived.Test.YtohmklmkjmlpjaaGreatDoorRk2
namespace Go.Proofs.YtohmklmkjmlpjaaGreatDoor
open Go.Proofs.Tryz
open Go.RowKit
section
variable {P:Program} {ops:Array Oper} {Q:Exit->Act->World->Prop} {md:Region.Mode} {E:Nat}
def xS (md:Region.Mode) (ops:Array Oper) (j:Nat):List Nat:=match ops[j]? with
 |some o=>(o.after.toList.filter (λe=>Region.binds md e)).map (λe=>e.on)
 |none=>[]
def aFo (md:Region.Mode) (ops:Array Oper) (S:List Nat):List Nat:=(S++S.flatMap (xS md ops)).eraseDups
def Rw (md:Region.Mode) (ops:Array Oper) (E:Nat):Nat->List Nat
 |0=>xS md ops E
 |n+1=>aFo md ops (Rw md ops E n)
def qB (md:Region.Mode) (ops:Array Oper) (L:Array Bool):Prop:=∀j oj,ops[j]?=some oj->L.getD j false=true->∀e∈oj.after,Region.binds md e=true->L.getD e.on false=true
def qM (md:Region.Mode) (ops:Array Oper) (L:Array Bool):Bool:=(List.range ops.size).all λj=> !(L.getD j false)||(xS md ops j).all (λk=>L.getD k false)
theorem yg {j:Nat} {oj:Oper} (hj:ops[j]?=some oj) {k:Nat}:k∈xS md ops j↔∃e∈oj.after,Region.binds md e=true/\e.on=k:=by
 unfold xS;rw [hj];simp only[List.mem_map,List.mem_filter,Array.mem_toList_iff];constructor
 .rintro⟨e,⟨h1,h2⟩,h3⟩;exact⟨e,h1,h2,h3⟩
 .rintro⟨e,h1,h2,h3⟩;exact⟨e,⟨h1,h2⟩,h3⟩
theorem jZ {L:Array Bool} (h:qM md ops L=true):qB md ops L:=by
 intro j oj hj hl e he hb;unfold qM at h;rw [List.all_eq_true] at h
 have hjs:j < ops.size:=by
  rcases Nat.lt_or_ge j ops.size with h'|h'
  .exact h'
  .rw [Array.getElem?_eq_none h'] at hj;cases hj
 have h1:=h j (List.mem_range.2 hjs);rw [hl] at h1;simp only[Bool.not_true,Bool.false_or,List.all_eq_true] at h1;exact h1 e.on ((yg hj).2 ⟨e,he,hb,rfl⟩)
theorem Ep {L:Array Bool} (hc:qB md ops L) (hE:E∈Region.ready md ops L):∀n,∀k∈Rw md ops E n,L.getD k false=true:=by
 obtain⟨_,o,ho,hall⟩:=mem_ready.1 hE;intro n;induction n with
 |zero=>
  intro k hk;obtain⟨e,he,hb,rfl⟩:=(yg ho).1 hk;exact hall e he hb
 |succ n ih=>
  intro k hk;have hk':k∈(Rw md ops E n++(Rw md ops E n).flatMap (xS md ops)).eraseDups:=hk;rw [List.mem_eraseDups,List.mem_append,List.mem_flatMap] at hk';rcases hk' with h|⟨d,hd,hkd⟩
  .exact ih k h
  .cases hod:ops[d]? with
   |none=>unfold xS at hkd;rw [hod] at hkd;cases hkd
   |some od=>
    obtain⟨e,he,hb,rfl⟩:=(yg hod).1 hkd;exact hc d od hod (ih d hd) e he hb
theorem Ev {L:Array Bool} {j:Nat} (hc:qB md ops L) (hj:j∈Region.ready md ops L):qB md ops (L.setIfInBounds j true):=by
 obtain⟨_,o,ho,hall⟩:=mem_ready.1 hj;intro k ok hk hl e he hb;by_cases hjk:j=k
 .subst hjk;obtain rfl:=Option.some.inj (ho.symm.trans hk);exact getD_set_true (hall e he hb)
 .rw [getD_set_ne false hjk] at hl;exact getD_set_true (hc k ok hk hl e he hb)
def fC (P:Program) (md:Region.Mode) (ops:Array Oper) (Q:Exit->Act->World->Prop) (E:Nat):Nat->Array Bool->Act->World->Prop
 |0,listed,a,w=>Region.ready md ops listed=[]/\∀x,Ge w x->Q .normal a x
 |fuel+1,listed,a,w=>(Region.ready md ops listed=[E]/\∀x,Ge w x->wpAny P md ops Q (fuel+1) listed a x)\/
  ∀x,Ge w x->(Region.ready md ops listed=[]->Q .normal a x)/\∀i∈Region.ready md ops listed,wpOp P ops Q i (λa' y=>Ge x y/\fC P md ops Q E fuel (listed.setIfInBounds i true) a' y) a x
theorem vS {fuel:Nat} {listed:Array Bool} {a:Act} {w x:World} (hx:Ge w x) (h:fC P md ops Q E fuel listed a w):fC P md ops Q E fuel listed a x:=by
 cases fuel with
 |zero=>exact⟨h.1,λy hy=>h.2 y (Ge.trans hx hy)⟩
 |succ fuel=>
  rcases h with⟨h1,h2⟩|h
  .exact .inl ⟨h1,λy hy=>h2 y (Ge.trans hx hy)⟩
  .exact .inr λy hy=>h y (Ge.trans hx hy)
theorem rE:∀(fuel:Nat) (listed:Array Bool) (a:Act) (w:World),fC P md ops Q E fuel listed a w->wpAny P md ops Q fuel listed a w
 |0,_,_,w,h=>⟨h.1,h.2 w (Below.refl _ _)⟩
 |_+1,_,_,w,.inl h=>h.2 w (Below.refl _ _)
 |fuel+1,_,_,w,.inr h=>⟨(h w (Below.refl _ _)).1,λi hi=>wpOp_mono (λa' y hy=>rE fuel _ a' y hy.2) ((h w (Below.refl _ _)).2 i hi)⟩
theorem Ap {i:Nat} {oi:Oper} {v:Value} (n:Nat) (hi:ops[i]?=some oi) (hE:i∈Rw md ops E n) (hsel:∀(j:Nat) (o:Oper) cs b,ops[j]?=some o->o.op≠ .select cs b) (hQ:∀c a w,Q (.panic c) (a.put oi.dst v) w->Q (.panic c) a w):
 ∀(fuel:Nat) (listed:Array Bool) (a:Act) (w:World),qB md ops listed->
  (∀j oj,ops[j]?=some oj->j≠i->listed.getD j true=false->(∀e∈oj.after,Region.binds md e=true->e.on≠i)->oi.apart ops oj=true)->
  i∈Region.ready md ops listed->qH P ops oi v a w->fC P md ops Q E fuel (listed.setIfInBounds i true) (a.put oi.dst v) w->fC P md ops Q E (fuel+1) listed a w:=by
 intro fuel;induction fuel with
 |zero=>
  intro listed a w _ _ hr hy H;refine .inr λx hx=>⟨λh=>Abh,λj hj=>?_⟩
  by_cases hji:j=i
  .exact ajR
  .exact Vz
 |succ fuel ih=>
  intro listed a w hcl hfree hr hy H;refine .inr λx hx=>⟨λh=>Abh,λj hj=>?_⟩
  by_cases hji:j=i
  .exact ajR
  .rcases H with⟨h1,_⟩|H
   .exfalso
    have h2:=ready_mono hj hji;rw [h1] at h2;obtain rfl:j=E:=by simpa using h2
    have h3:=Ep hcl hj n i hE;have h4:=(mem_ready.1 hr).1;rcases Nat.lt_or_ge i listed.size with h'|h'
    .simp[h'] at h3 h4;rw [h4] at h3;cases h3
    .simp[Array.getElem?_eq_none h'] at h3
   .have h1:=(H x hx).2 j (ready_mono hj hji);exact aBo
theorem vT (i n:Nat) {oi:Oper} {fuel:Nat} {listed:Array Bool} {a:Act} {w:World} (hi:ops[i]?=some oi) (hs:Region.noSelect ops=true) (hf:Region.free md ops listed i=true) (hr:(Region.ready md ops listed).contains i=true)
 (hcl:qM md ops listed=true) (hE:(Rw md ops E n).contains i=true)
 (hQ:∀v c a w,Q (.panic c) (a.put oi.dst v) w->Q (.panic c) a w)
 (h:∀K:Act->Prop,(∀a',fC P md ops Q E fuel (listed.setIfInBounds i true) a' w->K a')->if Region.wanted oi (yielded ops a.tmps) then∃v,(∀p:Regrown,Oper.quietUpon P (Ge (Gr w p)) (Gr w p) v ((execOp a.eval oi).run P (Gr w p)))/\K (a.put oi.dst v) else K (a.put oi.dst undef)):
 fC P md ops Q E (fuel+1) listed a w:=by
 have h':=h _ λ_ h=>h
 have hE':i∈Rw md ops E n:=Ace
 by_cases hw:Region.wanted oi (yielded ops a.tmps)=true
 .rw [if_pos hw] at h';obtain⟨v,hv,hk⟩:=h';refine Ap n hi hE' (Region.noSelect_spec hs) (hQ v) fuel listed a w (jZ hcl) (Region.free_spec hi hf) Abb (.inl ⟨hw,λx hx=>?_⟩) hk;exact abd
 .rw [if_neg hw] at h';exact Ap n hi hE' (Region.noSelect_spec hs) (hQ undef) fuel listed a w (jZ hcl) (Region.free_spec hi hf) Abb (.inr ⟨Acg,rfl⟩) h'
theorem dV (i:Nat) {oi:Oper} {fuel:Nat} {listed:Array Bool} {a:Act} {w:World} (hi:ops[i]?=some oi) (hr:Region.ready md ops listed=[i]) (hw:Region.wanted oi (yielded ops a.tmps)=true)
 (h:∀x,Ge w x->oi.wp P a x (λa' y=>Ge x y/\fC P md ops Q E fuel (listed.setIfInBounds i true) a' y) Q):fC P md ops Q E (fuel+1) listed a w:=by
 refine .inr λx hx=>?_
 exact ai5
theorem yI (i j:Nat) {oi oj:Oper} {fuel:Nat} {listed:Array Bool} {a:Act} {w:World} (hi:ops[i]?=some oi) (hj:ops[j]?=some oj) (hr:Region.ready md ops listed=[i,j]) (hwi:Region.wanted oi (yielded ops a.tmps)=true) (hwj:Region.wanted oj (yielded ops a.tmps)=true)
 (h1:∀x,Ge w x->oi.wp P a x (λa' y=>Ge x y/\fC P md ops Q E fuel (listed.setIfInBounds i true) a' y) Q)
 (h2:∀x,Ge w x->oj.wp P a x (λa' y=>Ge x y/\fC P md ops Q E fuel (listed.setIfInBounds j true) a' y) Q):fC P md ops Q E (fuel+1) listed a w:=by
 refine .inr λx hx=>?_
 rw [hr];refine⟨λh=>Aau,λk hk=>?_⟩;have hk':k=i\/k=j:=Acj
 rcases hk' with rfl|rfl
 .exact aa3
 .exact aa4
theorem bH {fuel:Nat} {listed:Array Bool} {a:Act} {w:World} (hr:Region.ready md ops listed=[E]) (h:∀x,Ge w x->wpAny P md ops Q (fuel+1) listed a x):fC P md ops Q E (fuel+1) listed a w:= .inl ⟨hr,h⟩
theorem aH (i:Nat) {oi:Oper} {fuel:Nat} {listed:Array Bool} {a:Act} {w:World} (hi:ops[i]?=some oi) (hr:Region.ready md ops listed=[i]) (hw:Region.wanted oi (yielded ops a.tmps)=true)
 (h:oi.wp P a w (wpAny P md ops Q fuel (listed.setIfInBounds i true)) Q):wpAny P md ops Q (fuel+1) listed a w:=by
 refine⟨λh=>(by rw [hr] at h;cases h),λj hj=>?_⟩;rw [hr] at hj;obtain rfl:j=i:=Abf
 unfold wpOp;simp only[hi];rw [if_pos hw];exact .inl h
theorem wpAny_done {listed:Array Bool} {a:Act} {w:World} (hr:Region.ready md ops listed=[]) (h:Q .normal a w):wpAny P md ops Q 0 listed a w:=⟨hr,h⟩
def vR (P:Program) (md:Region.Mode) (ops:Array Oper) (Q:Exit->Act->World->Prop) (fuel:Nat) (listed:Array Bool) (a:Act) (w:World):Prop:=∀x,Ge w x->wpAny P md ops Q fuel listed a x
theorem CP (i:Nat) {oi:Oper} {fuel:Nat} {listed:Array Bool} {a:Act} {w:World} (hi:ops[i]?=some oi) (hs:Region.noSelect ops=true) (hf:Region.free md ops listed i=true) (hr:(Region.ready md ops listed).contains i=true)
 (hQ:∀v c a w,Q (.panic c) (a.put oi.dst v) w->Q (.panic c) a w)
 (h:∀K:Act->Prop,(∀a',vR P md ops Q fuel (listed.setIfInBounds i true) a' w->K a')->if Region.wanted oi (yielded ops a.tmps) then∃v,(∀x:World,(execOp a.eval oi).run P x= .ok (.value v) x)/\K (a.put oi.dst v) else K (a.put oi.dst undef)):
 vR P md ops Q (fuel+1) listed a w:=by
 have h':=h _ λ_ h=>h
 intro x hx;by_cases hw:Region.wanted oi (yielded ops a.tmps)=true
 .rw [if_pos hw] at h';obtain⟨v,hv,hk⟩:=h';exact wpAny_take hi hs hf hr (hQ v) (.inl ⟨hw,hv⟩) (hk x hx)
 .rw [if_neg hw] at h';exact wpAny_take hi hs hf hr (hQ undef) (.inr ⟨Acg,rfl⟩) (h' x hx)
theorem qY (E:Nat) {fuel:Nat} {listed:Array Bool} {a:Act} {w:World} (h:fC P md ops Q E fuel listed a w):vR P md ops Q fuel listed a w:=λ_ hx=>rE _ _ _ _ (vS hx h)
theorem mG {id:Nat} {a:Act} {w:World} (hm:P.follows .mixedOrders=true) (h:vR P .any ops Q ops.size (Array.replicate ops.size false) a w):(Code.region id ops true).wp P Q a w:=
 wp_region_any hm (h {w with drawn:=w.drawn+1} ⟨rfl,rfl,rfl,Nat.le_refl _,λ_ _=>rfl⟩)
theorem dD (E:Nat) {id:Nat} {a:Act} {w:World} (hm:P.follows .mixedOrders=true) (h:fC P .any ops Q E ops.size (Array.replicate ops.size false) a w):(Code.region id ops true).wp P Q a w:=
 wp_region_any hm (rE _ _ _ _ (vS (w:=w) (x:={w with drawn:=w.drawn+1}) ⟨rfl,rfl,rfl,Nat.le_refl _,λ_ _=>rfl⟩ h))
end
open Go.RowKit
section
variable {P:Program} {ops:Array Oper} {Q:Exit->Act->World->Prop} {md:Region.Mode} {E:Nat}
def jI (P:Program) (md:Region.Mode) (ops:Array Oper) (Q:Exit->Act->World->Prop) (E:Nat):Nat->Array Bool->Act->World->Prop
 |0,listed,a,w=>Region.ready md ops listed=[]/\∀x,Ge w x->Q .normal a x
 |fuel+1,listed,a,w=>∀x,Ge w x->(Region.ready md ops listed=[]->Q .normal a x)/\∀i∈Region.ready md ops listed,
  (i=E->wpOp P ops Q i (λa' y=>wpAny P md ops Q fuel (listed.setIfInBounds i true) a' y) a x)/\
  (i≠E->wpOp P ops Q i (λa' y=>Ge x y/\jI P md ops Q E fuel (listed.setIfInBounds i true) a' y) a x)
theorem CR {fuel:Nat} {listed:Array Bool} {a:Act} {w x:World} (hx:Ge w x) (h:jI P md ops Q E fuel listed a w):jI P md ops Q E fuel listed a x:=by
 exact aaT
theorem xI:∀(fuel:Nat) (listed:Array Bool) (a:Act) (w:World),jI P md ops Q E fuel listed a w->wpAny P md ops Q fuel listed a w
 |0,_,_,w,h=>⟨h.1,h.2 w (Below.refl _ _)⟩
 |fuel+1,_,_,w,h=>⟨(h w (Below.refl _ _)).1,λi hi=>by
  by_cases hE:i=E
  .exact((h w (Below.refl _ _)).2 i hi).1 hE
  .exact wpOp_mono (λa' y hy=>xI fuel _ a' y hy.2) (((h w (Below.refl _ _)).2 i hi).2 hE)⟩
theorem Aq {i:Nat} {oi:Oper} {v:Value} (n:Nat) (hi:ops[i]?=some oi) (hE:i∈Rw md ops E n) (hsel:∀(j:Nat) (o:Oper) cs b,ops[j]?=some o->o.op≠ .select cs b) (hQ:∀c a w,Q (.panic c) (a.put oi.dst v) w->Q (.panic c) a w):
 ∀(fuel:Nat) (listed:Array Bool) (a:Act) (w:World),qB md ops listed->
  (∀j oj,ops[j]?=some oj->j≠i->listed.getD j true=false->(∀e∈oj.after,Region.binds md e=true->e.on≠i)->oi.apart ops oj=true)->
  i∈Region.ready md ops listed->qH P ops oi v a w->jI P md ops Q E fuel (listed.setIfInBounds i true) (a.put oi.dst v) w->jI P md ops Q E (fuel+1) listed a w:=by
 open avc in exact agO
theorem Rn (i n:Nat) {oi:Oper} {fuel:Nat} {listed:Array Bool} {a:Act} {w:World} (hi:ops[i]?=some oi) (hs:Region.noSelect ops=true) (hf:Region.free md ops listed i=true) (hr:(Region.ready md ops listed).contains i=true)
 (hcl:qM md ops listed=true) (hE:(Rw md ops E n).contains i=true)
 (hQ:∀v c a w,Q (.panic c) (a.put oi.dst v) w->Q (.panic c) a w)
 (h:∀K:Act->Prop,(∀a',jI P md ops Q E fuel (listed.setIfInBounds i true) a' w->K a')->if Region.wanted oi (yielded ops a.tmps) then∃v,(∀p:Regrown,Oper.quietUpon P (Ge (Gr w p)) (Gr w p) v ((execOp a.eval oi).run P (Gr w p)))/\K (a.put oi.dst v) else K (a.put oi.dst undef)):
 jI P md ops Q E (fuel+1) listed a w:=by
 have h':=h _ λ_ h=>h
 have hE':i∈Rw md ops E n:=Ace
 by_cases hw:Region.wanted oi (yielded ops a.tmps)=true
 .rw [if_pos hw] at h';obtain⟨v,hv,hk⟩:=h';refine Aq n hi hE' (Region.noSelect_spec hs) (hQ v) fuel listed a w (jZ hcl) (Region.free_spec hi hf) Abb (.inl ⟨hw,λx hx=>?_⟩) hk;exact abd
 .rw [if_neg hw] at h';exact Aq n hi hE' (Region.noSelect_spec hs) (hQ undef) fuel listed a w (jZ hcl) (Region.free_spec hi hf) Abb (.inr ⟨Acg,rfl⟩) h'
theorem UE (i:Nat) {oi:Oper} {fuel:Nat} {listed:Array Bool} {a:Act} {w:World} (hi:ops[i]?=some oi) (hr:Region.ready md ops listed=[i]) (hw:Region.wanted oi (yielded ops a.tmps)=true) (hiE:i≠E)
 (h:∀x,Ge w x->oi.wp P a x (λa' y=>Ge x y/\jI P md ops Q E fuel (listed.setIfInBounds i true) a' y) Q):jI P md ops Q E (fuel+1) listed a w:=by
 exact aiG
theorem jq (i:Nat) {oi oj:Oper} {fuel:Nat} {listed:Array Bool} {a:Act} {w:World} (hi:ops[i]?=some oi) (hj:ops[E]?=some oj) (hr:Region.ready md ops listed=[i,E]) (hwi:Region.wanted oi (yielded ops a.tmps)=true) (hwj:Region.wanted oj (yielded ops a.tmps)=true) (hiE:i≠E)
 (h1:∀x,Ge w x->oi.wp P a x (λa' y=>Ge x y/\jI P md ops Q E fuel (listed.setIfInBounds i true) a' y) Q)
 (h2:∀x,Ge w x->oj.wp P a x (wpAny P md ops Q fuel (listed.setIfInBounds E true)) Q):jI P md ops Q E (fuel+1) listed a w:=by
 intro x hx;rw [hr];refine⟨λh=>Aau,λk hk=>?_⟩;have hk':k=i\/k=E:=Acj
 rcases hk' with rfl|rfl
 .refine⟨λe=>absurd e hiE,λ_=>?_⟩;exact aa3
 .refine⟨λ_=>?_,λe=>absurd rfl e⟩;exact aa4
theorem Ar {fuel:Nat} {listed:Array Bool} {a:Act} {w:World} (hr:Region.ready md ops listed=[E]) (h:∀x,Ge w x->wpAny P md ops Q (fuel+1) listed a x):jI P md ops Q E (fuel+1) listed a w:=λx hx=>⟨(h x hx).1,λi hi=>⟨λ_=>(h x hx).2 i hi,λhne=>absurd (by rw [hr] at hi;simpa using hi) hne⟩⟩
theorem vV (E:Nat) {id:Nat} {a:Act} {w:World} (hm:P.follows .mixedOrders=true) (h:jI P .any ops Q E ops.size (Array.replicate ops.size false) a w):(Code.region id ops true).wp P Q a w:=
 wp_region_any hm (xI _ _ _ _ (CR (w:=w) (x:={w with drawn:=w.drawn+1}) ⟨rfl,rfl,rfl,Nat.le_refl _,λ_ _=>rfl⟩ h))
end
open Go.RowKit
section
variable {P:Program} {ops:Array Oper} {Q:Exit->Act->World->Prop} {md:Region.Mode} {E b:Nat}
def jg (P:Program) (md:Region.Mode) (ops:Array Oper) (Q:Exit->Act->World->Prop) (E b:Nat):Nat->Array Bool->Act->World->Prop
 |0,listed,a,w=>Region.ready md ops listed=[]/\∀x,Ge w x->Q .normal a x
 |fuel+1,listed,a,w=>∀x,Ge w x->(Region.ready md ops listed=[]->Q .normal a x)/\∀i∈Region.ready md ops listed,
  (i=E->wpOp P ops Q i (λa' y=>wpAny P md ops Q fuel (listed.setIfInBounds i true) a' y) a x)/\
  (i≠E->wpOp P ops Q i (λa' y=>Below b x y/\jg P md ops Q E b fuel (listed.setIfInBounds i true) a' y) a x)
theorem CQ {fuel:Nat} {listed:Array Bool} {a:Act} {w x:World} (hx:Ge w x) (h:jg P md ops Q E b fuel listed a w):jg P md ops Q E b fuel listed a x:=by
 exact aaT
theorem xH:∀(fuel:Nat) (listed:Array Bool) (a:Act) (w:World),jg P md ops Q E b fuel listed a w->wpAny P md ops Q fuel listed a w
 |0,_,_,w,h=>⟨h.1,h.2 w (Below.refl _ _)⟩
 |fuel+1,_,_,w,h=>⟨(h w (Below.refl _ _)).1,λi hi=>by
  by_cases hE:i=E
  .exact((h w (Below.refl _ _)).2 i hi).1 hE
  .exact wpOp_mono (λa' y hy=>xH fuel _ a' y hy.2) (((h w (Below.refl _ _)).2 i hi).2 hE)⟩
def DJ (P:Program) (ops:Array Oper) (b:Nat) (o:Oper) (v:Value) (a:Act) (w:World):Prop:=
 (Region.wanted o (yielded ops a.tmps)=true/\∀x,Below b w x->Oper.quietUpon P (Ge x) x v ((execOp a.eval o).run P x))\/(Region.wanted o (yielded ops a.tmps)=false/\v=undef)
theorem DJ.toG {o:Oper} {v:Value} {a:Act} {w:World} (h:DJ P ops b o v a w) (hb:b<=w.heap.size):qH P ops o v a w:=h.imp (fun⟨p,q⟩=>⟨p,λx hx=>q x (hx.mono hb)⟩) id
theorem Ao {i:Nat} {oi:Oper} {v:Value} (n:Nat) (hi:ops[i]?=some oi) (hE:i∈Rw md ops E n) (hsel:∀(j:Nat) (o:Oper) cs b,ops[j]?=some o->o.op≠ .select cs b) (hQ:∀c a w,Q (.panic c) (a.put oi.dst v) w->Q (.panic c) a w):
 ∀(fuel:Nat) (listed:Array Bool) (a:Act) (w:World),b<=w.heap.size->qB md ops listed->
  (∀j oj,ops[j]?=some oj->j≠i->listed.getD j true=false->(∀e∈oj.after,Region.binds md e=true->e.on≠i)->oi.apart ops oj=true)->
  i∈Region.ready md ops listed->DJ P ops b oi v a w->jg P md ops Q E b fuel (listed.setIfInBounds i true) (a.put oi.dst v) w->jg P md ops Q E b (fuel+1) listed a w:=by
 open avd in exact agO
structure Und (b:Nat) (w:World) where
 x:World
 h:Below b w x
theorem dB {b:Nat} {w:World} {g i:Nat} {v:Option Value} (hg:g < b) (h:w.cell? ⟨g,i,none⟩=v):∀p:Und b w,p.x.cell? ⟨g,i,none⟩=v:=λp=>(p.h.cell (p:=⟨g,i,none⟩) hg).trans h
theorem Rm (i n:Nat) {oi:Oper} {fuel:Nat} {listed:Array Bool} {a:Act} {w:World} (hb:b<=w.heap.size) (hi:ops[i]?=some oi) (hs:Region.noSelect ops=true) (hf:Region.free md ops listed i=true) (hr:(Region.ready md ops listed).contains i=true)
 (hcl:qM md ops listed=true) (hE:(Rw md ops E n).contains i=true)
 (hQ:∀v c a w,Q (.panic c) (a.put oi.dst v) w->Q (.panic c) a w)
 (h:∀K:Act->Prop,(∀a',jg P md ops Q E b fuel (listed.setIfInBounds i true) a' w->K a')->if Region.wanted oi (yielded ops a.tmps) then∃v,(∀p:Und b w,Oper.quietUpon P (Ge p.x) p.x v ((execOp a.eval oi).run P p.x))/\K (a.put oi.dst v) else K (a.put oi.dst undef)):
 jg P md ops Q E b (fuel+1) listed a w:=by
 have h':=h _ λ_ h=>h
 have hE':i∈Rw md ops E n:=Ace
 by_cases hw:Region.wanted oi (yielded ops a.tmps)=true
 .rw [if_pos hw] at h';obtain⟨v,hv,hk⟩:=h';exact Ao n hi hE' (Region.noSelect_spec hs) (hQ v) fuel listed a w hb (jZ hcl) (Region.free_spec hi hf) Abb (.inl ⟨hw,λx hx=>hv ⟨x,hx⟩⟩) hk
 .rw [if_neg hw] at h';exact Ao n hi hE' (Region.noSelect_spec hs) (hQ undef) fuel listed a w hb (jZ hcl) (Region.free_spec hi hf) Abb (.inr ⟨Acg,rfl⟩) h'
theorem gL (i:Nat) {oi:Oper} {fuel:Nat} {listed:Array Bool} {a:Act} {w:World} (hi:ops[i]?=some oi) (hr:Region.ready md ops listed=[i]) (hw:Region.wanted oi (yielded ops a.tmps)=true) (hiE:i≠E)
 (h:∀x,Ge w x->oi.wp P a x (λa' y=>Below b x y/\jg P md ops Q E b fuel (listed.setIfInBounds i true) a' y) Q):jg P md ops Q E b (fuel+1) listed a w:=by
 exact aiG
theorem jY (i j:Nat) {oi oj:Oper} {fuel:Nat} {listed:Array Bool} {a:Act} {w:World} (hi:ops[i]?=some oi) (hj:ops[j]?=some oj) (hr:Region.ready md ops listed=[i,j]) (hwi:Region.wanted oi (yielded ops a.tmps)=true) (hwj:Region.wanted oj (yielded ops a.tmps)=true) (hiE:i≠E) (hjE:j≠E)
 (h1:∀x,Ge w x->oi.wp P a x (λa' y=>Below b x y/\jg P md ops Q E b fuel (listed.setIfInBounds i true) a' y) Q)
 (h2:∀x,Ge w x->oj.wp P a x (λa' y=>Below b x y/\jg P md ops Q E b fuel (listed.setIfInBounds j true) a' y) Q):jg P md ops Q E b (fuel+1) listed a w:=by
 intro x hx;rw [hr];refine⟨λh=>Aau,λk hk=>?_⟩;have hk':k=i\/k=j:=Acj
 rcases hk' with rfl|rfl
 .refine⟨λe=>absurd e hiE,λ_=>?_⟩;exact aa3
 .refine⟨λe=>absurd e hjE,λ_=>?_⟩;exact aa4
theorem oL {fuel:Nat} {listed:Array Bool} {a:Act} {w:World} (hr:Region.ready md ops listed=[E]) (h:∀x,Ge w x->wpAny P md ops Q (fuel+1) listed a x):jg P md ops Q E b (fuel+1) listed a w:=λx hx=>⟨(h x hx).1,λi hi=>⟨λ_=>(h x hx).2 i hi,λhne=>absurd (by rw [hr] at hi;simpa using hi) hne⟩⟩
theorem mH (E b:Nat) {id:Nat} {a:Act} {w:World} (hm:P.follows .mixedOrders=true) (h:jg P .any ops Q E b ops.size (Array.replicate ops.size false) a w):(Code.region id ops true).wp P Q a w:=
 wp_region_any hm (xH (E:=E) (b:=b) _ _ _ _ (CQ (w:=w) (x:={w with drawn:=w.drawn+1}) ⟨rfl,rfl,rfl,Nat.le_refl _,λ_ _=>rfl⟩ h))
end
open Go.RowKit
section
variable {P:Program} {ops:Array Oper} {Q:Exit->Act->World->Prop} {md:Region.Mode} {E b:Nat} {is:List Nat} {i:Nat} {oi:Oper} {fuel:Nat} {listed:Array Bool} {a:Act} {w:World}
def TkL (_:List Nat) (p:Prop):Prop:=p
theorem tk (is:List Nat) {p:Prop} (h:TkL is p):p:=h
theorem jK {p:Prop} (h:p):TkL [] p:=h
theorem AJ (h:∀K:Act->Prop,(∀a',TkL is (gT P md ops Q fuel (listed.setIfInBounds i true) a' w)->K a')->if Region.wanted oi (yielded ops a.tmps) then∃v,(∀p:Regrown,Oper.quietUpon P (Ge (Gr w p)) (Gr w p) v ((execOp a.eval oi).run P (Gr w p)))/\K (a.put oi.dst v) else K (a.put oi.dst undef)) (hi:ops[i]?=some oi:=by rfl) (hs:Region.noSelect ops=true:=by kernel_rfl) (hf:Region.free md ops listed i=true:=by kernel_rfl) (hr:(Region.ready md ops listed).contains i=true:=by kernel_rfl) (hQ:∀v c a w,Q (.panic c) (a.put oi.dst v) w->Q (.panic c) a w:=by exact λ_ _ _ _ h=>h):TkL (i::is) (gT P md ops Q (fuel+1) listed a w):=
 aP i hi hs hf hr hQ h
theorem uS (h:∀K:Act->Prop,(∀a',TkL is (fC P md ops Q E fuel (listed.setIfInBounds i true) a' w)->K a')->if Region.wanted oi (yielded ops a.tmps) then∃v,(∀p:Regrown,Oper.quietUpon P (Ge (Gr w p)) (Gr w p) v ((execOp a.eval oi).run P (Gr w p)))/\K (a.put oi.dst v) else K (a.put oi.dst undef)) (hi:ops[i]?=some oi:=by rfl) (hs:Region.noSelect ops=true:=by kernel_rfl) (hf:Region.free md ops listed i=true:=by kernel_rfl) (hr:(Region.ready md ops listed).contains i=true:=by kernel_rfl) (hcl:qM md ops listed=true:=by kernel_rfl) (hE:(Rw md ops E 20).contains i=true:=by kernel_rfl) (hQ:∀v c a w,Q (.panic c) (a.put oi.dst v) w->Q (.panic c) a w:=by exact λ_ _ _ _ h=>h):TkL (i::is) (fC P md ops Q E (fuel+1) listed a w):=
 vT i 20 hi hs hf hr hcl hE hQ h
theorem tkF (h:∀K:Act->Prop,(∀a',TkL is (jI P md ops Q E fuel (listed.setIfInBounds i true) a' w)->K a')->if Region.wanted oi (yielded ops a.tmps) then∃v,(∀p:Regrown,Oper.quietUpon P (Ge (Gr w p)) (Gr w p) v ((execOp a.eval oi).run P (Gr w p)))/\K (a.put oi.dst v) else K (a.put oi.dst undef)) (hi:ops[i]?=some oi:=by rfl) (hs:Region.noSelect ops=true:=by kernel_rfl) (hf:Region.free md ops listed i=true:=by kernel_rfl) (hr:(Region.ready md ops listed).contains i=true:=by kernel_rfl) (hcl:qM md ops listed=true:=by kernel_rfl) (hE:(Rw md ops E 20).contains i=true:=by kernel_rfl) (hQ:∀v c a w,Q (.panic c) (a.put oi.dst v) w->Q (.panic c) a w:=by exact λ_ _ _ _ h=>h):TkL (i::is) (jI P md ops Q E (fuel+1) listed a w):=
 Rn i 20 hi hs hf hr hcl hE hQ h
theorem tkB (hb:b<=w.heap.size) (h:∀K:Act->Prop,(∀a',TkL is (jg P md ops Q E b fuel (listed.setIfInBounds i true) a' w)->K a')->if Region.wanted oi (yielded ops a.tmps) then∃v,(∀p:Und b w,Oper.quietUpon P (Ge p.x) p.x v ((execOp a.eval oi).run P p.x))/\K (a.put oi.dst v) else K (a.put oi.dst undef)) (hi:ops[i]?=some oi:=by rfl) (hs:Region.noSelect ops=true:=by kernel_rfl) (hf:Region.free md ops listed i=true:=by kernel_rfl) (hr:(Region.ready md ops listed).contains i=true:=by kernel_rfl) (hcl:qM md ops listed=true:=by kernel_rfl) (hE:(Rw md ops E 20).contains i=true:=by kernel_rfl) (hQ:∀v c a w,Q (.panic c) (a.put oi.dst v) w->Q (.panic c) a w:=by exact λ_ _ _ _ h=>h):TkL (i::is) (jg P md ops Q E b (fuel+1) listed a w):=
 Rm i 20 hb hi hs hf hr hcl hE hQ h
end
end Go.Proofs.YtohmklmkjmlpjaaGreatDoor
namespace Go.Proofs
open Go.Shelf YtohmklmkjmlpjaaGreatDoor
def Tryz.sortL_ren:Go.Shelf.Ren:=⟨fun|5=>233|8=>258|7=>257|19=>283|20=>284|10=>274|11=>275|12=>276|13=>277|14=>278|15=>279|16=>280|17=>281|18=>282|30=>295|31=>296|32=>297|33=>298|34=>299|35=>300|40=>308|n=>n,fun|23=>22|25=>3|3=>3|32=>220|22=>22|0=>0|44=>104|46=>322|4=>4|36=>314|35=>313|41=>232|5=>5|9=>9|53=>343|57=>347|63=>361|64=>157|n=>n,fun|n=>n⟩
theorem Tryz.sortL:Go.Proofs.SlLaysM.n5 Tryz.prog Tryz.sortL_ren:={
 mixed:=Aab
 f5:=⟨Tryz.f233.name,Aae,Tryz.func233.trans (congrArg some Aab)⟩
 f7:=⟨Tryz.f257.name,Aae,Tryz.func257.trans (congrArg some Aab)⟩
 f8:=Tryz.func258.trans (congrArg some Aab)
 f10:=⟨Tryz.f274.name,Aae,Tryz.func274.trans (congrArg some Aab)⟩
 f11:=⟨Tryz.f275.name,Aae,Tryz.func275.trans (congrArg some Aab)⟩
 f12:=⟨Tryz.f276.name,Aae,Tryz.func276.trans (congrArg some Aab)⟩
 f13:=⟨Tryz.f277.name,Aae,Tryz.func277.trans (congrArg some Aab)⟩
 f14:=⟨Tryz.f278.name,Aae,Tryz.func278.trans (congrArg some Aab)⟩
 f15:=⟨Tryz.f279.name,Aae,Tryz.func279.trans (congrArg some Aab)⟩
 f16:=⟨Tryz.f280.name,Aae,Tryz.func280.trans (congrArg some Aab)⟩
 f17:=⟨Tryz.f281.name,Aae,Tryz.func281.trans (congrArg some Aab)⟩
 f18:=⟨Tryz.f282.name,Aae,Tryz.func282.trans (congrArg some Aab)⟩
 f19:=Tryz.func283.trans (congrArg some Aab)
 f20:=Tryz.func284.trans (congrArg some Aab)
 f30:=⟨Tryz.f295.name,Aae,Tryz.func295.trans (congrArg some Aab)⟩
 f31:=Tryz.func296.trans (congrArg some Aab)
 f32:=Tryz.func297.trans (congrArg some Aab)
 f33:=⟨Tryz.f298.name,Aae,Tryz.func298.trans (congrArg some Aab)⟩
 f34:=⟨Tryz.f299.name,Aae,Tryz.func299.trans (congrArg some Aab)⟩
 f35:=⟨Tryz.f300.name,Aae,Tryz.func300.trans (congrArg some Aab)⟩
 f40:=⟨Tryz.f308.name,Aae,Tryz.func308.trans (congrArg some Aab)⟩
 t0:=Tryz.underlying0
 a0:=Tryz.isAgg0
 z0:=Tryz.sizeOf0
 v0:=Tryz.zeroValue0
 t3:=Tryz.underlying3
 a3:=Tryz.isAgg3
 z3:=Tryz.sizeOf3
 v3:=Tryz.zeroValue3
 t4:=Tryz.underlying4
 a4:=Tryz.isAgg4
 z4:=Tryz.sizeOf4
 v4:=Tryz.zeroValue4
 t5:=Tryz.underlying5
 a5:=Tryz.isAgg5
 z5:=Tryz.sizeOf5
 v5:=Tryz.zeroValue5
 t9:=Tryz.underlying9
 a9:=Tryz.isAgg9
 z9:=Tryz.sizeOf9
 v9:=Tryz.zeroValue9
 t22:=Tryz.underlying22
 a22:=Tryz.isAgg22
 z22:=Tryz.sizeOf22
 v22:=Tryz.zeroValue22
 t23:=Tryz.underlying22
 a23:=Tryz.isAgg22
 z23:=Tryz.sizeOf22
 v23:=Tryz.zeroValue22
 t25:=Tryz.underlying3
 a25:=Tryz.isAgg3
 z25:=Tryz.sizeOf3
 v25:=Tryz.zeroValue3
 t32:=Tryz.underlying220
 a32:=Tryz.isAgg220
 z32:=Tryz.sizeOf220
 v32:=Tryz.zeroValue220
 t35:=Tryz.underlying313
 a35:=Tryz.isAgg313
 z35:=Tryz.sizeOf313
 v35:=Tryz.zeroValue313
 t36:=Tryz.underlying314
 a36:=Tryz.isAgg314
 z36:=Tryz.sizeOf314
 v36:=Tryz.zeroValue314
 t41:=Tryz.underlying232
 a41:=Tryz.isAgg232
 z41:=Tryz.sizeOf232
 v41:=Tryz.zeroValue232
 t44:=Tryz.underlying104
 a44:=Tryz.isAgg104
 z44:=Tryz.sizeOf104
 v44:=Tryz.zeroValue104
 t46:=Tryz.underlying322
 a46:=Tryz.isAgg322
 z46:=Tryz.sizeOf322
 v46:=Tryz.zeroValue322
 t53:=Tryz.underlying343
 a53:=Tryz.isAgg343
 z53:=Tryz.sizeOf343
 v53:=Tryz.zeroValue343
 t57:=Tryz.underlying347
 a57:=Tryz.isAgg347
 z57:=Tryz.sizeOf347
 v57:=Tryz.zeroValue347
 t63:=Tryz.underlying361
 a63:=Tryz.isAgg361
 z63:=Tryz.sizeOf361
 v63:=Tryz.zeroValue361
 t64:=Tryz.underlying157
 a64:=Tryz.isAgg157
 z64:=Tryz.sizeOf157
 v64:=Tryz.zeroValue157}
end Go.Proofs
namespace Go.Proofs.YtohmklmkjmlpjaaGreatDoor
open Go.Proofs.Tryz
open Go
theorem Aj {H:Type} {enc:TypeId×Value->H} {P:Program} {w:World} {sp:Nat->Bool}:∀{ns:List String} {gs:List (DataW H)} {ps:List MemPlace},DataW.TrodVars enc P w sp ns gs ps->gs.length=ns.length
 |[],[],_,_=>rfl
 |[],_::_,_,h=>h.elim
 |_::_,[],_,h=>h.elim
 |_::ns,_::ds,_,h=>by
  obtain⟨_,_,_,_,_,_,_,_,_,_,hs,_⟩:=h
  have:=Aj hs
  simp[this]
theorem Us {α:Type} {gs:List α} (h:gs.length=5):∃a b c d e,gs=[a,b,c,d,e]:=by
 match gs,h with
 |[a,b,c,d,e],_=>exact⟨a,b,c,d,e,rfl⟩
end Go.Proofs.YtohmklmkjmlpjaaGreatDoor
