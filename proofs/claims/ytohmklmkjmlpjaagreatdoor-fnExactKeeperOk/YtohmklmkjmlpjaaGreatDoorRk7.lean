/- Parts. -/
import Derived.Test.YtohmklmkjmlpjaaGreatDoorRk3
namespace Go.Proofs.YtohmklmkjmlpjaaGreatDoor
open Go.Proofs.Tryz
open Go.RowKit
section
variable {P:Program} {ops:Array Oper} {Q:Exit->Act->World->Prop} {md:Region.Mode} {E:Nat}
def xQ (md:Region.Mode) (ops:Array Oper) (j:Nat):List Nat:=match ops[j]? with
 |some o=>(o.after.toList.filter (λe=>Region.binds md e)).map (λe=>e.on)
 |none=>[]
def aBt (md:Region.Mode) (ops:Array Oper) (S:List Nat):List Nat:=(S++S.flatMap (xQ md ops)).eraseDups
def Jk (md:Region.Mode) (ops:Array Oper) (E:Nat):Nat->List Nat
 |0=>xQ md ops E
 |n+1=>aBt md ops (Jk md ops E n)
def oz (md:Region.Mode) (ops:Array Oper) (L:Array Bool):Prop:=∀j oj,ops[j]?=some oj->L.getD j false=true->∀e∈oj.after,Region.binds md e=true->L.getD e.on false=true
def mX (md:Region.Mode) (ops:Array Oper) (L:Array Bool):Bool:=(List.range ops.size).all λj=> !(L.getD j false)||(xQ md ops j).all (λk=>L.getD k false)
theorem xZ {j:Nat} {oj:Oper} (hj:ops[j]?=some oj) {k:Nat}:k∈xQ md ops j↔∃e∈oj.after,Region.binds md e=true/\e.on=k:=by
 unfold xQ;rw [hj];simp only[List.mem_map,List.mem_filter,Array.mem_toList_iff];constructor
 .rintro⟨e,⟨h1,h2⟩,h3⟩;exact⟨e,h1,h2,h3⟩
 .rintro⟨e,h1,h2,h3⟩;exact⟨e,⟨h1,h2⟩,h3⟩
theorem iC {L:Array Bool} (h:mX md ops L=true):oz md ops L:=by
 intro j oj hj hl e he hb;unfold mX at h;rw [List.all_eq_true] at h
 have hjs:j < ops.size:=by
  rcases Nat.lt_or_ge j ops.size with h'|h'
  .exact h'
  .rw [Array.getElem?_eq_none h'] at hj;cases hj
 have h1:=h j (List.mem_range.2 hjs);rw [hl] at h1;simp only[Bool.not_true,Bool.false_or,List.all_eq_true] at h1;exact h1 e.on ((xZ hj).2 ⟨e,he,hb,rfl⟩)
theorem Ei {L:Array Bool} (hc:oz md ops L) (hE:E∈Region.ready md ops L):∀n,∀k∈Jk md ops E n,L.getD k false=true:=by
 obtain⟨_,o,ho,hall⟩:=mem_ready.1 hE;intro n;induction n with
 |zero=>
  intro k hk;obtain⟨e,he,hb,rfl⟩:=(xZ ho).1 hk;exact hall e he hb
 |succ n ih=>
  intro k hk;have hk':k∈(Jk md ops E n++(Jk md ops E n).flatMap (xQ md ops)).eraseDups:=hk;rw [List.mem_eraseDups,List.mem_append,List.mem_flatMap] at hk';rcases hk' with h|⟨d,hd,hkd⟩
  .exact ih k h
  .cases hod:ops[d]? with
   |none=>unfold xQ at hkd;rw [hod] at hkd;cases hkd
   |some od=>
    obtain⟨e,he,hb,rfl⟩:=(xZ hod).1 hkd;exact hc d od hod (ih d hd) e he hb
theorem xP {L:Array Bool} {j:Nat} (hc:oz md ops L) (hj:j∈Region.ready md ops L):oz md ops (L.setIfInBounds j true):=by
 obtain⟨_,o,ho,hall⟩:=mem_ready.1 hj;intro k ok hk hl e he hb;by_cases hjk:j=k
 .subst hjk;obtain rfl:=Option.some.inj (ho.symm.trans hk);exact getD_set_true (hall e he hb)
 .rw [getD_set_ne false hjk] at hl;exact getD_set_true (hc k ok hk hl e he hb)
def eY (P:Program) (md:Region.Mode) (ops:Array Oper) (Q:Exit->Act->World->Prop) (E:Nat):Nat->Array Bool->Act->World->Prop
 |0,listed,a,w=>Region.ready md ops listed=[]/\∀x,Ge w x->Q .normal a x
 |fuel+1,listed,a,w=>(Region.ready md ops listed=[E]/\∀x,Ge w x->wpAny P md ops Q (fuel+1) listed a x)\/
  ∀x,Ge w x->(Region.ready md ops listed=[]->Q .normal a x)/\∀i∈Region.ready md ops listed,wpOp P ops Q i (λa' y=>Ge x y/\eY P md ops Q E fuel (listed.setIfInBounds i true) a' y) a x
theorem vQ {fuel:Nat} {listed:Array Bool} {a:Act} {w x:World} (hx:Ge w x) (h:eY P md ops Q E fuel listed a w):eY P md ops Q E fuel listed a x:=by
 cases fuel with
 |zero=>exact⟨h.1,λy hy=>h.2 y (Ge.trans hx hy)⟩
 |succ fuel=>
  rcases h with⟨h1,h2⟩|h
  .exact .inl ⟨h1,λy hy=>h2 y (Ge.trans hx hy)⟩
  .exact .inr λy hy=>h y (Ge.trans hx hy)
theorem ru:∀(fuel:Nat) (listed:Array Bool) (a:Act) (w:World),eY P md ops Q E fuel listed a w->wpAny P md ops Q fuel listed a w
 |0,_,_,w,h=>⟨h.1,h.2 w (Below.refl _ _)⟩
 |_+1,_,_,w,.inl h=>h.2 w (Below.refl _ _)
 |fuel+1,_,_,w,.inr h=>⟨(h w (Below.refl _ _)).1,λi hi=>wpOp_mono (λa' y hy=>ru fuel _ a' y hy.2) ((h w (Below.refl _ _)).2 i hi)⟩
theorem Ak {i:Nat} {oi:Oper} {v:Value} (n:Nat) (hi:ops[i]?=some oi) (hE:i∈Jk md ops E n) (hsel:∀(j:Nat) (o:Oper) cs b,ops[j]?=some o->o.op≠ .select cs b) (hQ:∀c a w,Q (.panic c) (a.put oi.dst v) w->Q (.panic c) a w):
 ∀(fuel:Nat) (listed:Array Bool) (a:Act) (w:World),oz md ops listed->
  (∀j oj,ops[j]?=some oj->j≠i->listed.getD j true=false->(∀e∈oj.after,Region.binds md e=true->e.on≠i)->oi.apart ops oj=true)->
  i∈Region.ready md ops listed->oC P ops oi v a w->eY P md ops Q E fuel (listed.setIfInBounds i true) (a.put oi.dst v) w->eY P md ops Q E (fuel+1) listed a w:=by
 intro fuel;induction fuel with
 |zero=>
  intro listed a w _ _ hr hy H;refine .inr λx hx=>⟨λh=>Aby,λj hj=>?_⟩
  by_cases hji:j=i
  .exact aiC
  .exact Ob
 |succ fuel ih=>
  intro listed a w hcl hfree hr hy H;refine .inr λx hx=>⟨λh=>Aby,λj hj=>?_⟩
  by_cases hji:j=i
  .exact aiC
  .rcases H with⟨h1,_⟩|H
   .exfalso
    have h2:=ready_mono hj hji;rw [h1] at h2;obtain rfl:j=E:=by simpa using h2
    have h3:=Ei hcl hj n i hE;have h4:=(mem_ready.1 hr).1;rcases Nat.lt_or_ge i listed.size with h'|h'
    .exact ail
    .exact aiv
   .have h1:=(H x hx).2 j (ready_mono hj hji);exact axg
theorem vR (i n:Nat) {oi:Oper} {fuel:Nat} {listed:Array Bool} {a:Act} {w:World} (hi:ops[i]?=some oi) (hs:Region.noSelect ops=true) (hf:Region.free md ops listed i=true) (hr:(Region.ready md ops listed).contains i=true)
 (hcl:mX md ops listed=true) (hE:(Jk md ops E n).contains i=true)
 (hQ:∀v c a w,Q (.panic c) (a.put oi.dst v) w->Q (.panic c) a w)
 (h:∀K:Act->Prop,(∀a',eY P md ops Q E fuel (listed.setIfInBounds i true) a' w->K a')->if Region.wanted oi (yielded ops a.tmps) then∃v,(∀p:Regrown,Oper.quietUpon P (Ge (Gr w p)) (Gr w p) v ((execOp a.eval oi).run P (Gr w p)))/\K (a.put oi.dst v) else K (a.put oi.dst undef)):
 eY P md ops Q E (fuel+1) listed a w:=by
 have h':=h _ λ_ h=>h
 have hE':i∈Jk md ops E n:=Abl
 by_cases hw:Region.wanted oi (yielded ops a.tmps)=true
 .rw [if_pos hw] at h';obtain⟨v,hv,hk⟩:=h';refine Ak n hi hE' (Region.noSelect_spec hs) (hQ v) fuel listed a w (iC hcl) (Region.free_spec hi hf) Aau (.inl ⟨hw,λx hx=>?_⟩) hk;exact aaC
 .rw [if_neg hw] at h';exact Ak n hi hE' (Region.noSelect_spec hs) (hQ undef) fuel listed a w (iC hcl) (Region.free_spec hi hf) Aau (.inr ⟨Abz,rfl⟩) h'
theorem dU (i:Nat) {oi:Oper} {fuel:Nat} {listed:Array Bool} {a:Act} {w:World} (hi:ops[i]?=some oi) (hr:Region.ready md ops listed=[i]) (hw:Region.wanted oi (yielded ops a.tmps)=true)
 (h:∀x,Ge w x->oi.wp P a x (λa' y=>Ge x y/\eY P md ops Q E fuel (listed.setIfInBounds i true) a' y) Q):eY P md ops Q E (fuel+1) listed a w:=by
 refine .inr λx hx=>?_
 exact ahL
theorem yG (i j:Nat) {oi oj:Oper} {fuel:Nat} {listed:Array Bool} {a:Act} {w:World} (hi:ops[i]?=some oi) (hj:ops[j]?=some oj) (hr:Region.ready md ops listed=[i,j]) (hwi:Region.wanted oi (yielded ops a.tmps)=true) (hwj:Region.wanted oj (yielded ops a.tmps)=true)
 (h1:∀x,Ge w x->oi.wp P a x (λa' y=>Ge x y/\eY P md ops Q E fuel (listed.setIfInBounds i true) a' y) Q)
 (h2:∀x,Ge w x->oj.wp P a x (λa' y=>Ge x y/\eY P md ops Q E fuel (listed.setIfInBounds j true) a' y) Q):eY P md ops Q E (fuel+1) listed a w:=by
 refine .inr λx hx=>?_
 rw [hr];refine⟨λh=>Aat,λk hk=>?_⟩;have hk':k=i\/k=j:=Aci
 rcases hk' with rfl|rfl
 .exact aau
 .exact aav
theorem bC {fuel:Nat} {listed:Array Bool} {a:Act} {w:World} (hr:Region.ready md ops listed=[E]) (h:∀x,Ge w x->wpAny P md ops Q (fuel+1) listed a x):eY P md ops Q E (fuel+1) listed a w:= .inl ⟨hr,h⟩
theorem aH (i:Nat) {oi:Oper} {fuel:Nat} {listed:Array Bool} {a:Act} {w:World} (hi:ops[i]?=some oi) (hr:Region.ready md ops listed=[i]) (hw:Region.wanted oi (yielded ops a.tmps)=true)
 (h:oi.wp P a w (wpAny P md ops Q fuel (listed.setIfInBounds i true)) Q):wpAny P md ops Q (fuel+1) listed a w:=by
 refine⟨λh=>(by rw [hr] at h;cases h),λj hj=>?_⟩;rw [hr] at hj;obtain rfl:j=i:=Abf
 unfold wpOp;simp only[hi];rw [if_pos hw];exact .inl h
theorem wpAny_done {listed:Array Bool} {a:Act} {w:World} (hr:Region.ready md ops listed=[]) (h:Q .normal a w):wpAny P md ops Q 0 listed a w:=⟨hr,h⟩
def vP (P:Program) (md:Region.Mode) (ops:Array Oper) (Q:Exit->Act->World->Prop) (fuel:Nat) (listed:Array Bool) (a:Act) (w:World):Prop:=∀x,Ge w x->wpAny P md ops Q fuel listed a x
theorem Cz (i:Nat) {oi:Oper} {fuel:Nat} {listed:Array Bool} {a:Act} {w:World} (hi:ops[i]?=some oi) (hs:Region.noSelect ops=true) (hf:Region.free md ops listed i=true) (hr:(Region.ready md ops listed).contains i=true)
 (hQ:∀v c a w,Q (.panic c) (a.put oi.dst v) w->Q (.panic c) a w)
 (h:∀K:Act->Prop,(∀a',vP P md ops Q fuel (listed.setIfInBounds i true) a' w->K a')->if Region.wanted oi (yielded ops a.tmps) then∃v,(∀x:World,(execOp a.eval oi).run P x= .ok (.value v) x)/\K (a.put oi.dst v) else K (a.put oi.dst undef)):
 vP P md ops Q (fuel+1) listed a w:=by
 have h':=h _ λ_ h=>h
 intro x hx;by_cases hw:Region.wanted oi (yielded ops a.tmps)=true
 .rw [if_pos hw] at h';obtain⟨v,hv,hk⟩:=h';exact wpAny_take hi hs hf hr (hQ v) (.inl ⟨hw,hv⟩) (hk x hx)
 .rw [if_neg hw] at h';exact wpAny_take hi hs hf hr (hQ undef) (.inr ⟨Abz,rfl⟩) (h' x hx)
theorem qR (E:Nat) {fuel:Nat} {listed:Array Bool} {a:Act} {w:World} (h:eY P md ops Q E fuel listed a w):vP P md ops Q fuel listed a w:=λ_ hx=>ru _ _ _ _ (vQ hx h)
theorem lY {id:Nat} {a:Act} {w:World} (hm:P.follows .mixedOrders=true) (h:vP P .any ops Q ops.size (Array.replicate ops.size false) a w):(Code.region id ops true).wp P Q a w:=
 wp_region_any hm (h {w with drawn:=w.drawn+1} ⟨rfl,rfl,rfl,Nat.le_refl _,λ_ _=>rfl⟩)
theorem dB (E:Nat) {id:Nat} {a:Act} {w:World} (hm:P.follows .mixedOrders=true) (h:eY P .any ops Q E ops.size (Array.replicate ops.size false) a w):(Code.region id ops true).wp P Q a w:=
 wp_region_any hm (ru _ _ _ _ (vQ (w:=w) (x:={w with drawn:=w.drawn+1}) ⟨rfl,rfl,rfl,Nat.le_refl _,λ_ _=>rfl⟩ h))
end
section
variable {P:Program} {ops:Array Oper} {Q:Exit->Act->World->Prop} {md:Region.Mode} {E:Nat}
def jV (P:Program) (md:Region.Mode) (ops:Array Oper) (Q:Exit->Act->World->Prop) (E:Nat):Nat->Array Bool->Act->World->Prop
 |0,listed,a,w=>Region.ready md ops listed=[]/\∀x,Ge w x->Q .normal a x
 |fuel+1,listed,a,w=>∀x,Ge w x->(Region.ready md ops listed=[]->Q .normal a x)/\∀i∈Region.ready md ops listed,
  (i=E->wpOp P ops Q i (λa' y=>wpAny P md ops Q fuel (listed.setIfInBounds i true) a' y) a x)/\
  (i≠E->wpOp P ops Q i (λa' y=>Ge x y/\jV P md ops Q E fuel (listed.setIfInBounds i true) a' y) a x)
theorem CF {fuel:Nat} {listed:Array Bool} {a:Act} {w x:World} (hx:Ge w x) (h:jV P md ops Q E fuel listed a w):jV P md ops Q E fuel listed a x:=by
 exact adY
theorem xE:∀(fuel:Nat) (listed:Array Bool) (a:Act) (w:World),jV P md ops Q E fuel listed a w->wpAny P md ops Q fuel listed a w
 |0,_,_,w,h=>⟨h.1,h.2 w (Below.refl _ _)⟩
 |fuel+1,_,_,w,h=>⟨(h w (Below.refl _ _)).1,λi hi=>by
  by_cases hE:i=E
  .exact((h w (Below.refl _ _)).2 i hi).1 hE
  .exact wpOp_mono (λa' y hy=>xE fuel _ a' y hy.2) (((h w (Below.refl _ _)).2 i hi).2 hE)⟩
theorem Al {i:Nat} {oi:Oper} {v:Value} (n:Nat) (hi:ops[i]?=some oi) (hE:i∈Jk md ops E n) (hsel:∀(j:Nat) (o:Oper) cs b,ops[j]?=some o->o.op≠ .select cs b) (hQ:∀c a w,Q (.panic c) (a.put oi.dst v) w->Q (.panic c) a w):
 ∀(fuel:Nat) (listed:Array Bool) (a:Act) (w:World),oz md ops listed->
  (∀j oj,ops[j]?=some oj->j≠i->listed.getD j true=false->(∀e∈oj.after,Region.binds md e=true->e.on≠i)->oi.apart ops oj=true)->
  i∈Region.ready md ops listed->oC P ops oi v a w->jV P md ops Q E fuel (listed.setIfInBounds i true) (a.put oi.dst v) w->jV P md ops Q E (fuel+1) listed a w:=by
 open apr in exact ajE
theorem Q9 (i n:Nat) {oi:Oper} {fuel:Nat} {listed:Array Bool} {a:Act} {w:World} (hi:ops[i]?=some oi) (hs:Region.noSelect ops=true) (hf:Region.free md ops listed i=true) (hr:(Region.ready md ops listed).contains i=true)
 (hcl:mX md ops listed=true) (hE:(Jk md ops E n).contains i=true)
 (hQ:∀v c a w,Q (.panic c) (a.put oi.dst v) w->Q (.panic c) a w)
 (h:∀K:Act->Prop,(∀a',jV P md ops Q E fuel (listed.setIfInBounds i true) a' w->K a')->if Region.wanted oi (yielded ops a.tmps) then∃v,(∀p:Regrown,Oper.quietUpon P (Ge (Gr w p)) (Gr w p) v ((execOp a.eval oi).run P (Gr w p)))/\K (a.put oi.dst v) else K (a.put oi.dst undef)):
 jV P md ops Q E (fuel+1) listed a w:=by
 have h':=h _ λ_ h=>h
 have hE':i∈Jk md ops E n:=Abl
 by_cases hw:Region.wanted oi (yielded ops a.tmps)=true
 .rw [if_pos hw] at h';obtain⟨v,hv,hk⟩:=h';refine Al n hi hE' (Region.noSelect_spec hs) (hQ v) fuel listed a w (iC hcl) (Region.free_spec hi hf) Aau (.inl ⟨hw,λx hx=>?_⟩) hk;exact aaC
 .rw [if_neg hw] at h';exact Al n hi hE' (Region.noSelect_spec hs) (hQ undef) fuel listed a w (iC hcl) (Region.free_spec hi hf) Aau (.inr ⟨Abz,rfl⟩) h'
theorem Uu (i:Nat) {oi:Oper} {fuel:Nat} {listed:Array Bool} {a:Act} {w:World} (hi:ops[i]?=some oi) (hr:Region.ready md ops listed=[i]) (hw:Region.wanted oi (yielded ops a.tmps)=true) (hiE:i≠E)
 (h:∀x,Ge w x->oi.wp P a x (λa' y=>Ge x y/\jV P md ops Q E fuel (listed.setIfInBounds i true) a' y) Q):jV P md ops Q E (fuel+1) listed a w:=by
 exact ajV
theorem Uv (i:Nat) {oi oj:Oper} {fuel:Nat} {listed:Array Bool} {a:Act} {w:World} (hi:ops[i]?=some oi) (hj:ops[E]?=some oj) (hr:Region.ready md ops listed=[i,E]) (hwi:Region.wanted oi (yielded ops a.tmps)=true) (hwj:Region.wanted oj (yielded ops a.tmps)=true) (hiE:i≠E)
 (h1:∀x,Ge w x->oi.wp P a x (λa' y=>Ge x y/\jV P md ops Q E fuel (listed.setIfInBounds i true) a' y) Q)
 (h2:∀x,Ge w x->oj.wp P a x (wpAny P md ops Q fuel (listed.setIfInBounds E true)) Q):jV P md ops Q E (fuel+1) listed a w:=by
 intro x hx;rw [hr];refine⟨λh=>Aat,λk hk=>?_⟩;have hk':k=i\/k=E:=Aci
 rcases hk' with rfl|rfl
 .refine⟨λe=>absurd e hiE,λ_=>?_⟩;exact aau
 .refine⟨λ_=>?_,λe=>absurd rfl e⟩;exact aav
theorem MX {fuel:Nat} {listed:Array Bool} {a:Act} {w:World} (hr:Region.ready md ops listed=[E]) (h:∀x,Ge w x->wpAny P md ops Q (fuel+1) listed a x):jV P md ops Q E (fuel+1) listed a w:=λx hx=>⟨(h x hx).1,λi hi=>⟨λ_=>(h x hx).2 i hi,λhne=>absurd Ada hne⟩⟩
theorem F9 (E:Nat) {id:Nat} {a:Act} {w:World} (hm:P.follows .mixedOrders=true) (h:jV P .any ops Q E ops.size (Array.replicate ops.size false) a w):(Code.region id ops true).wp P Q a w:=
 wp_region_any hm (xE _ _ _ _ (CF (w:=w) (x:={w with drawn:=w.drawn+1}) ⟨rfl,rfl,rfl,Nat.le_refl _,λ_ _=>rfl⟩ h))
end
section
variable {P:Program} {ops:Array Oper} {Q:Exit->Act->World->Prop} {md:Region.Mode} {E b:Nat}
def jf (P:Program) (md:Region.Mode) (ops:Array Oper) (Q:Exit->Act->World->Prop) (E b:Nat):Nat->Array Bool->Act->World->Prop
 |0,listed,a,w=>Region.ready md ops listed=[]/\∀x,Ge w x->Q .normal a x
 |fuel+1,listed,a,w=>∀x,Ge w x->(Region.ready md ops listed=[]->Q .normal a x)/\∀i∈Region.ready md ops listed,
  (i=E->wpOp P ops Q i (λa' y=>wpAny P md ops Q fuel (listed.setIfInBounds i true) a' y) a x)/\
  (i≠E->wpOp P ops Q i (λa' y=>Below b x y/\jf P md ops Q E b fuel (listed.setIfInBounds i true) a' y) a x)
theorem CB {fuel:Nat} {listed:Array Bool} {a:Act} {w x:World} (hx:Ge w x) (h:jf P md ops Q E b fuel listed a w):jf P md ops Q E b fuel listed a x:=by
 exact adY
theorem xD:∀(fuel:Nat) (listed:Array Bool) (a:Act) (w:World),jf P md ops Q E b fuel listed a w->wpAny P md ops Q fuel listed a w
 |0,_,_,w,h=>⟨h.1,h.2 w (Below.refl _ _)⟩
 |fuel+1,_,_,w,h=>⟨(h w (Below.refl _ _)).1,λi hi=>by
  by_cases hE:i=E
  .exact((h w (Below.refl _ _)).2 i hi).1 hE
  .exact wpOp_mono (λa' y hy=>xD fuel _ a' y hy.2) (((h w (Below.refl _ _)).2 i hi).2 hE)⟩
def Dt (P:Program) (ops:Array Oper) (b:Nat) (o:Oper) (v:Value) (a:Act) (w:World):Prop:=
 (Region.wanted o (yielded ops a.tmps)=true/\∀x,Below b w x->Oper.quietUpon P (Ge x) x v ((execOp a.eval o).run P x))\/(Region.wanted o (yielded ops a.tmps)=false/\v=undef)
theorem Dt.toG {o:Oper} {v:Value} {a:Act} {w:World} (h:Dt P ops b o v a w) (hb:b<=w.heap.size):oC P ops o v a w:=h.imp (fun⟨p,q⟩=>⟨p,λx hx=>q x (hx.mono hb)⟩) id
theorem Aj {i:Nat} {oi:Oper} {v:Value} (n:Nat) (hi:ops[i]?=some oi) (hE:i∈Jk md ops E n) (hsel:∀(j:Nat) (o:Oper) cs b,ops[j]?=some o->o.op≠ .select cs b) (hQ:∀c a w,Q (.panic c) (a.put oi.dst v) w->Q (.panic c) a w):
 ∀(fuel:Nat) (listed:Array Bool) (a:Act) (w:World),b<=w.heap.size->oz md ops listed->
  (∀j oj,ops[j]?=some oj->j≠i->listed.getD j true=false->(∀e∈oj.after,Region.binds md e=true->e.on≠i)->oi.apart ops oj=true)->
  i∈Region.ready md ops listed->Dt P ops b oi v a w->jf P md ops Q E b fuel (listed.setIfInBounds i true) (a.put oi.dst v) w->jf P md ops Q E b (fuel+1) listed a w:=by
 open aps in exact ajE
structure Und (b:Nat) (w:World) where
 x:World
 h:Below b w x
theorem dA {b:Nat} {w:World} {g i:Nat} {v:Option Value} (hg:g < b) (h:w.cell? ⟨g,i,none⟩=v):∀p:Und b w,p.x.cell? ⟨g,i,none⟩=v:=λp=>(p.h.cell (p:=⟨g,i,none⟩) hg).trans h
theorem Q8 (i n:Nat) {oi:Oper} {fuel:Nat} {listed:Array Bool} {a:Act} {w:World} (hb:b<=w.heap.size) (hi:ops[i]?=some oi) (hs:Region.noSelect ops=true) (hf:Region.free md ops listed i=true) (hr:(Region.ready md ops listed).contains i=true)
 (hcl:mX md ops listed=true) (hE:(Jk md ops E n).contains i=true)
 (hQ:∀v c a w,Q (.panic c) (a.put oi.dst v) w->Q (.panic c) a w)
 (h:∀K:Act->Prop,(∀a',jf P md ops Q E b fuel (listed.setIfInBounds i true) a' w->K a')->if Region.wanted oi (yielded ops a.tmps) then∃v,(∀p:Und b w,Oper.quietUpon P (Ge p.x) p.x v ((execOp a.eval oi).run P p.x))/\K (a.put oi.dst v) else K (a.put oi.dst undef)):
 jf P md ops Q E b (fuel+1) listed a w:=by
 have h':=h _ λ_ h=>h
 have hE':i∈Jk md ops E n:=Abl
 by_cases hw:Region.wanted oi (yielded ops a.tmps)=true
 .rw [if_pos hw] at h';obtain⟨v,hv,hk⟩:=h';exact Aj n hi hE' (Region.noSelect_spec hs) (hQ v) fuel listed a w hb (iC hcl) (Region.free_spec hi hf) Aau (.inl ⟨hw,λx hx=>hv ⟨x,hx⟩⟩) hk
 .rw [if_neg hw] at h';exact Aj n hi hE' (Region.noSelect_spec hs) (hQ undef) fuel listed a w hb (iC hcl) (Region.free_spec hi hf) Aau (.inr ⟨Abz,rfl⟩) h'
theorem gF (i:Nat) {oi:Oper} {fuel:Nat} {listed:Array Bool} {a:Act} {w:World} (hi:ops[i]?=some oi) (hr:Region.ready md ops listed=[i]) (hw:Region.wanted oi (yielded ops a.tmps)=true) (hiE:i≠E)
 (h:∀x,Ge w x->oi.wp P a x (λa' y=>Below b x y/\jf P md ops Q E b fuel (listed.setIfInBounds i true) a' y) Q):jf P md ops Q E b (fuel+1) listed a w:=by
 exact ajV
theorem mW (i j:Nat) {oi oj:Oper} {fuel:Nat} {listed:Array Bool} {a:Act} {w:World} (hi:ops[i]?=some oi) (hj:ops[j]?=some oj) (hr:Region.ready md ops listed=[i,j]) (hwi:Region.wanted oi (yielded ops a.tmps)=true) (hwj:Region.wanted oj (yielded ops a.tmps)=true) (hiE:i≠E) (hjE:j≠E)
 (h1:∀x,Ge w x->oi.wp P a x (λa' y=>Below b x y/\jf P md ops Q E b fuel (listed.setIfInBounds i true) a' y) Q)
 (h2:∀x,Ge w x->oj.wp P a x (λa' y=>Below b x y/\jf P md ops Q E b fuel (listed.setIfInBounds j true) a' y) Q):jf P md ops Q E b (fuel+1) listed a w:=by
 intro x hx;rw [hr];refine⟨λh=>Aat,λk hk=>?_⟩;have hk':k=i\/k=j:=Aci
 rcases hk' with rfl|rfl
 .refine⟨λe=>absurd e hiE,λ_=>?_⟩;exact aau
 .refine⟨λe=>absurd e hjE,λ_=>?_⟩;exact aav
theorem oI {fuel:Nat} {listed:Array Bool} {a:Act} {w:World} (hr:Region.ready md ops listed=[E]) (h:∀x,Ge w x->wpAny P md ops Q (fuel+1) listed a x):jf P md ops Q E b (fuel+1) listed a w:=λx hx=>⟨(h x hx).1,λi hi=>⟨λ_=>(h x hx).2 i hi,λhne=>absurd Ada hne⟩⟩
theorem lZ (E b:Nat) {id:Nat} {a:Act} {w:World} (hm:P.follows .mixedOrders=true) (h:jf P .any ops Q E b ops.size (Array.replicate ops.size false) a w):(Code.region id ops true).wp P Q a w:=
 wp_region_any hm (xD (E:=E) (b:=b) _ _ _ _ (CB (w:=w) (x:={w with drawn:=w.drawn+1}) ⟨rfl,rfl,rfl,Nat.le_refl _,λ_ _=>rfl⟩ h))
end
section
variable {P:Program} {ops:Array Oper} {Q:Exit->Act->World->Prop} {md:Region.Mode} {E b:Nat} {is:List Nat} {i:Nat} {oi:Oper} {fuel:Nat} {listed:Array Bool} {a:Act} {w:World}
def TkL (_:List Nat) (p:Prop):Prop:=p
theorem tk (is:List Nat) {p:Prop} (h:TkL is p):p:=h
theorem jJ {p:Prop} (h:p):TkL [] p:=h
theorem Ar (h:∀K:Act->Prop,(∀a',TkL is (gL P md ops Q fuel (listed.setIfInBounds i true) a' w)->K a')->if Region.wanted oi (yielded ops a.tmps) then∃v,(∀p:Regrown,Oper.quietUpon P (Ge (Gr w p)) (Gr w p) v ((execOp a.eval oi).run P (Gr w p)))/\K (a.put oi.dst v) else K (a.put oi.dst undef)) (hi:ops[i]?=some oi:=by rfl) (hs:Region.noSelect ops=true:=by kernel_rfl) (hf:Region.free md ops listed i=true:=by kernel_rfl) (hr:(Region.ready md ops listed).contains i=true:=by kernel_rfl) (hQ:∀v c a w,Q (.panic c) (a.put oi.dst v) w->Q (.panic c) a w:=by exact λ_ _ _ _ h=>h):TkL (i::is) (gL P md ops Q (fuel+1) listed a w):=
 aJ i hi hs hf hr hQ h
theorem uR (h:∀K:Act->Prop,(∀a',TkL is (eY P md ops Q E fuel (listed.setIfInBounds i true) a' w)->K a')->if Region.wanted oi (yielded ops a.tmps) then∃v,(∀p:Regrown,Oper.quietUpon P (Ge (Gr w p)) (Gr w p) v ((execOp a.eval oi).run P (Gr w p)))/\K (a.put oi.dst v) else K (a.put oi.dst undef)) (hi:ops[i]?=some oi:=by rfl) (hs:Region.noSelect ops=true:=by kernel_rfl) (hf:Region.free md ops listed i=true:=by kernel_rfl) (hr:(Region.ready md ops listed).contains i=true:=by kernel_rfl) (hcl:mX md ops listed=true:=by kernel_rfl) (hE:(Jk md ops E 20).contains i=true:=by kernel_rfl) (hQ:∀v c a w,Q (.panic c) (a.put oi.dst v) w->Q (.panic c) a w:=by exact λ_ _ _ _ h=>h):TkL (i::is) (eY P md ops Q E (fuel+1) listed a w):=
 vR i 20 hi hs hf hr hcl hE hQ h
theorem tkF (h:∀K:Act->Prop,(∀a',TkL is (jV P md ops Q E fuel (listed.setIfInBounds i true) a' w)->K a')->if Region.wanted oi (yielded ops a.tmps) then∃v,(∀p:Regrown,Oper.quietUpon P (Ge (Gr w p)) (Gr w p) v ((execOp a.eval oi).run P (Gr w p)))/\K (a.put oi.dst v) else K (a.put oi.dst undef)) (hi:ops[i]?=some oi:=by rfl) (hs:Region.noSelect ops=true:=by kernel_rfl) (hf:Region.free md ops listed i=true:=by kernel_rfl) (hr:(Region.ready md ops listed).contains i=true:=by kernel_rfl) (hcl:mX md ops listed=true:=by kernel_rfl) (hE:(Jk md ops E 20).contains i=true:=by kernel_rfl) (hQ:∀v c a w,Q (.panic c) (a.put oi.dst v) w->Q (.panic c) a w:=by exact λ_ _ _ _ h=>h):TkL (i::is) (jV P md ops Q E (fuel+1) listed a w):=
 Q9 i 20 hi hs hf hr hcl hE hQ h
theorem tkB (hb:b<=w.heap.size) (h:∀K:Act->Prop,(∀a',TkL is (jf P md ops Q E b fuel (listed.setIfInBounds i true) a' w)->K a')->if Region.wanted oi (yielded ops a.tmps) then∃v,(∀p:Und b w,Oper.quietUpon P (Ge p.x) p.x v ((execOp a.eval oi).run P p.x))/\K (a.put oi.dst v) else K (a.put oi.dst undef)) (hi:ops[i]?=some oi:=by rfl) (hs:Region.noSelect ops=true:=by kernel_rfl) (hf:Region.free md ops listed i=true:=by kernel_rfl) (hr:(Region.ready md ops listed).contains i=true:=by kernel_rfl) (hcl:mX md ops listed=true:=by kernel_rfl) (hE:(Jk md ops E 20).contains i=true:=by kernel_rfl) (hQ:∀v c a w,Q (.panic c) (a.put oi.dst v) w->Q (.panic c) a w:=by exact λ_ _ _ _ h=>h):TkL (i::is) (jf P md ops Q E b (fuel+1) listed a w):=
 Q8 i 20 hb hi hs hf hr hcl hE hQ h
end
end Go.Proofs.YtohmklmkjmlpjaaGreatDoor
