/- Parts. -/
import Derived.Test.YtohmklmkjmlpjaaGreatDoorRc1
namespace Go.Proofs.YtohmklmkjmlpjaaGreatDoor
open Go.Proofs.Tryz
open Go.RowKit
section
variable {P:Program} {ops:Array Oper} {Q:Exit->Act->World->Prop} {md:Region.Mode} {E:Nat}
def yL (md:Region.Mode) (ops:Array Oper) (j:Nat):List Nat:=match ops[j]? with
 |some o=>(o.after.toList.filter (λe=>Region.binds md e)).map (λe=>e.on)
 |none=>[]
def aDy (md:Region.Mode) (ops:Array Oper) (S:List Nat):List Nat:=(S++S.flatMap (yL md ops)).eraseDups
def JZ (md:Region.Mode) (ops:Array Oper) (E:Nat):Nat->List Nat
 |0=>yL md ops E
 |n+1=>aDy md ops (JZ md ops E n)
def pV (md:Region.Mode) (ops:Array Oper) (L:Array Bool):Prop:=∀j oj,ops[j]?=some oj->L.getD j false=true->∀e∈oj.after,Region.binds md e=true->L.getD e.on false=true
def nT (md:Region.Mode) (ops:Array Oper) (L:Array Bool):Bool:=(List.range ops.size).all λj=> !(L.getD j false)||(yL md ops j).all (λk=>L.getD k false)
theorem yR {j:Nat} {oj:Oper} (hj:ops[j]?=some oj) {k:Nat}:k∈yL md ops j↔∃e∈oj.after,Region.binds md e=true/\e.on=k:=by
 unfold yL;rw [hj];simp only[aHQ,aIc,Array.mem_toList_iff];constructor
 .rintro⟨e,⟨h1,h2⟩,h3⟩;exact⟨e,h1,h2,h3⟩
 .rintro⟨e,h1,h2,h3⟩;exact⟨e,⟨h1,h2⟩,h3⟩
theorem iM {L:Array Bool} (h:nT md ops L=true):pV md ops L:=by
 intro j oj hj hl e he hb;unfold nT at h;rw [aHX] at h
 have hjs:j < ops.size:=by
  rcases aHa j ops.size with h'|h'
  .exact h'
  .rw [aGU h'] at hj;cases hj
 have h1:=h j (aG7.2 hjs);rw [hl] at h1;simp only[Bool.not_true,Bool.false_or,aHX] at h1;exact h1 e.on ((yR hj).2 ⟨e,he,hb,rfl⟩)
theorem E9 {L:Array Bool} (hc:pV md ops L) (hE:E∈Region.ready md ops L):∀n,∀k∈JZ md ops E n,L.getD k false=true:=by
 obtain⟨_,o,ho,hall⟩:=mem_ready.1 hE;intro n;induction n with
 |zero=>
  intro k hk;obtain⟨e,he,hb,rfl⟩:=(yR ho).1 hk;exact hall e he hb
 |succ n ih=>
  intro k hk;have hk':k∈(JZ md ops E n++(JZ md ops E n).flatMap (yL md ops)).eraseDups:=hk;rw [List.mem_eraseDups,aGE,aHw] at hk';rcases hk' with h|⟨d,hd,hkd⟩
  .exact ih k h
  .cases hod:ops[d]? with
   |none=>unfold yL at hkd;rw [hod] at hkd;cases hkd
   |some od=>
    obtain⟨e,he,hb,rfl⟩:=(yR hod).1 hkd;exact hc d od hod (ih d hd) e he hb
theorem yK {L:Array Bool} {j:Nat} (hc:pV md ops L) (hj:j∈Region.ready md ops L):pV md ops (L.setIfInBounds j true):=by
 obtain⟨_,o,ho,hall⟩:=mem_ready.1 hj;intro k ok hk hl e he hb;by_cases hjk:j=k
 .subst hjk;obtain rfl:=aHd (ho.symm.trans hk);exact getD_set_true (hall e he hb)
 .rw [getD_set_ne false hjk] at hl;exact getD_set_true (hc k ok hk hl e he hb)
def fA (P:Program) (md:Region.Mode) (ops:Array Oper) (Q:Exit->Act->World->Prop) (E:Nat):Nat->Array Bool->Act->World->Prop
 |0,listed,a,w=>Region.ready md ops listed=[]/\∀x,Ge w x->Q .normal a x
 |fuel+1,listed,a,w=>(Region.ready md ops listed=[E]/\∀x,Ge w x->wpAny P md ops Q (fuel+1) listed a x)\/
  ∀x,Ge w x->(Region.ready md ops listed=[]->Q .normal a x)/\∀i∈Region.ready md ops listed,wpOp P ops Q i (λa' y=>Ge x y/\fA P md ops Q E fuel (listed.setIfInBounds i true) a' y) a x
theorem wW {fuel:Nat} {listed:Array Bool} {a:Act} {w x:World} (hx:Ge w x) (h:fA P md ops Q E fuel listed a w):fA P md ops Q E fuel listed a x:=by
 cases fuel with
 |zero=>exact⟨h.1,λy hy=>h.2 y (Ge.trans hx hy)⟩
 |succ fuel=>
  rcases h with⟨h1,h2⟩|h
  .exact .inl ⟨h1,λy hy=>h2 y (Ge.trans hx hy)⟩
  .exact .inr λy hy=>h y (Ge.trans hx hy)
theorem rY:∀(fuel:Nat) (listed:Array Bool) (a:Act) (w:World),fA P md ops Q E fuel listed a w->wpAny P md ops Q fuel listed a w
 |0,_,_,w,h=>⟨h.1,h.2 w (aGs _ _)⟩
 |_+1,_,_,w,.inl h=>h.2 w (aGs _ _)
 |fuel+1,_,_,w,.inr h=>⟨(h w (aGs _ _)).1,λi hi=>wpOp_mono (λa' y hy=>rY fuel _ a' y hy.2) ((h w (aGs _ _)).2 i hi)⟩
theorem Bj {i:Nat} {oi:Oper} {v:Value} (n:Nat) (hi:ops[i]?=some oi) (hE:i∈JZ md ops E n) (hsel:∀(j:Nat) (o:Oper) cs b,ops[j]?=some o->o.op≠ .select cs b) (hQ:∀c a w,Q (.panic c) (a.put oi.dst v) w->Q (.panic c) a w):
 ∀(fuel:Nat) (listed:Array Bool) (a:Act) (w:World),pV md ops listed->
  (∀j oj,ops[j]?=some oj->j≠i->listed.getD j true=false->(∀e∈oj.after,Region.binds md e=true->e.on≠i)->oi.apart ops oj=true)->
  i∈Region.ready md ops listed->pW P ops oi v a w->fA P md ops Q E fuel (listed.setIfInBounds i true) (a.put oi.dst v) w->fA P md ops Q E (fuel+1) listed a w:=by
 intro fuel;induction fuel with
 |zero=>
  intro listed a w _ _ hr hy H;refine .inr λx hx=>⟨λh=>Abz,λj hj=>?_⟩
  by_cases hji:j=i
  .exact ajK
  .exact O6
 |succ fuel ih=>
  intro listed a w hcl hfree hr hy H;refine .inr λx hx=>⟨λh=>Abz,λj hj=>?_⟩
  by_cases hji:j=i
  .exact ajK
  .rcases H with⟨h1,_⟩|H
   .exfalso
    have h2:=ready_mono hj hji;rw [h1] at h2;obtain rfl:j=E:=by simpa using h2
    have h3:=E9 hcl hj n i hE;have h4:=(mem_ready.1 hr).1;rcases aHa i listed.size with h'|h'
    .exact aju
    .exact ajC
   .have h1:=(H x hx).2 j (ready_mono hj hji);exact azx
theorem eX (i n:Nat) {oi:Oper} {fuel:Nat} {listed:Array Bool} {a:Act} {w:World} (hi:ops[i]?=some oi) (hs:Region.noSelect ops=true) (hf:Region.free md ops listed i=true) (hr:(Region.ready md ops listed).contains i=true)
 (hcl:nT md ops listed=true) (hE:(JZ md ops E n).contains i=true)
 (hQ:∀v c a w,Q (.panic c) (a.put oi.dst v) w->Q (.panic c) a w)
 (h:∀K:Act->Prop,(∀a',fA P md ops Q E fuel (listed.setIfInBounds i true) a' w->K a')->if Region.wanted oi (yielded ops a.tmps) then∃v,(∀p:Regrown,Oper.quietUpon P (Ge (Gr w p)) (Gr w p) v ((execOp a.eval oi).run P (Gr w p)))/\K (a.put oi.dst v) else K (a.put oi.dst undef)):
 fA P md ops Q E (fuel+1) listed a w:=by
 have h':=h _ λ_ h=>h
 have hE':i∈JZ md ops E n:=Abl
 by_cases hw:Region.wanted oi (yielded ops a.tmps)=true
 .rw [aGC hw] at h';obtain⟨v,hv,hk⟩:=h';refine Bj n hi hE' (aHc hs) (hQ v) fuel listed a w (iM hcl) (aHv hi hf) Aau (.inl ⟨hw,λx hx=>?_⟩) hk;exact abx
 .rw [aGr hw] at h';exact Bj n hi hE' (aHc hs) (hQ undef) fuel listed a w (iM hcl) (aHv hi hf) Aau (.inr ⟨Aca,rfl⟩) h'
theorem dP (i:Nat) {oi:Oper} {fuel:Nat} {listed:Array Bool} {a:Act} {w:World} (hi:ops[i]?=some oi) (hr:Region.ready md ops listed=[i]) (hw:Region.wanted oi (yielded ops a.tmps)=true)
 (h:∀x,Ge w x->oi.wp P a x (λa' y=>Ge x y/\fA P md ops Q E fuel (listed.setIfInBounds i true) a' y) Q):fA P md ops Q E (fuel+1) listed a w:=by
 refine .inr λx hx=>?_
 exact aiW
theorem zo (i j:Nat) {oi oj:Oper} {fuel:Nat} {listed:Array Bool} {a:Act} {w:World} (hi:ops[i]?=some oi) (hj:ops[j]?=some oj) (hr:Region.ready md ops listed=[i,j]) (hwi:Region.wanted oi (yielded ops a.tmps)=true) (hwj:Region.wanted oj (yielded ops a.tmps)=true)
 (h1:∀x,Ge w x->oi.wp P a x (λa' y=>Ge x y/\fA P md ops Q E fuel (listed.setIfInBounds i true) a' y) Q)
 (h2:∀x,Ge w x->oj.wp P a x (λa' y=>Ge x y/\fA P md ops Q E fuel (listed.setIfInBounds j true) a' y) Q):fA P md ops Q E (fuel+1) listed a w:=by
 refine .inr λx hx=>?_
 rw [hr];refine⟨λh=>Aat,λk hk=>?_⟩;have hk':k=i\/k=j:=Abn
 rcases hk' with rfl|rfl
 .exact abo
 .exact abp
theorem bE {fuel:Nat} {listed:Array Bool} {a:Act} {w:World} (hr:Region.ready md ops listed=[E]) (h:∀x,Ge w x->wpAny P md ops Q (fuel+1) listed a x):fA P md ops Q E (fuel+1) listed a w:= .inl ⟨hr,h⟩
theorem aG (i:Nat) {oi:Oper} {fuel:Nat} {listed:Array Bool} {a:Act} {w:World} (hi:ops[i]?=some oi) (hr:Region.ready md ops listed=[i]) (hw:Region.wanted oi (yielded ops a.tmps)=true)
 (h:oi.wp P a w (wpAny P md ops Q fuel (listed.setIfInBounds i true)) Q):wpAny P md ops Q (fuel+1) listed a w:=by
 refine⟨λh=>(by rw [hr] at h;cases h),λj hj=>?_⟩;rw [hr] at hj;obtain rfl:j=i:=Aav
 unfold wpOp;simp only[hi];rw [aGC hw];exact .inl h
theorem wpAny_done {listed:Array Bool} {a:Act} {w:World} (hr:Region.ready md ops listed=[]) (h:Q .normal a w):wpAny P md ops Q 0 listed a w:=⟨hr,h⟩
def wV (P:Program) (md:Region.Mode) (ops:Array Oper) (Q:Exit->Act->World->Prop) (fuel:Nat) (listed:Array Bool) (a:Act) (w:World):Prop:=∀x,Ge w x->wpAny P md ops Q fuel listed a x
theorem Dt (i:Nat) {oi:Oper} {fuel:Nat} {listed:Array Bool} {a:Act} {w:World} (hi:ops[i]?=some oi) (hs:Region.noSelect ops=true) (hf:Region.free md ops listed i=true) (hr:(Region.ready md ops listed).contains i=true)
 (hQ:∀v c a w,Q (.panic c) (a.put oi.dst v) w->Q (.panic c) a w)
 (h:∀K:Act->Prop,(∀a',wV P md ops Q fuel (listed.setIfInBounds i true) a' w->K a')->if Region.wanted oi (yielded ops a.tmps) then∃v,(∀x:World,(execOp a.eval oi).run P x= .ok (.value v) x)/\K (a.put oi.dst v) else K (a.put oi.dst undef)):
 wV P md ops Q (fuel+1) listed a w:=by
 have h':=h _ λ_ h=>h
 intro x hx;by_cases hw:Region.wanted oi (yielded ops a.tmps)=true
 .rw [aGC hw] at h';obtain⟨v,hv,hk⟩:=h';exact wpAny_take hi hs hf hr (hQ v) (.inl ⟨hw,hv⟩) (hk x hx)
 .rw [aGr hw] at h';exact wpAny_take hi hs hf hr (hQ undef) (.inr ⟨Aca,rfl⟩) (h' x hx)
theorem rT (E:Nat) {fuel:Nat} {listed:Array Bool} {a:Act} {w:World} (h:fA P md ops Q E fuel listed a w):wV P md ops Q fuel listed a w:=λ_ hx=>rY _ _ _ _ (wW hx h)
theorem mX {id:Nat} {a:Act} {w:World} (hm:P.follows .mixedOrders=true) (h:wV P .any ops Q ops.size (Array.replicate ops.size false) a w):(Code.region id ops true).wp P Q a w:=
 wp_region_any hm (h {w with drawn:=w.drawn+1} ⟨rfl,rfl,rfl,aGh _,λ_ _=>rfl⟩)
theorem dx (E:Nat) {id:Nat} {a:Act} {w:World} (hm:P.follows .mixedOrders=true) (h:fA P .any ops Q E ops.size (Array.replicate ops.size false) a w):(Code.region id ops true).wp P Q a w:=
 wp_region_any hm (rY _ _ _ _ (wW (w:=w) (x:={w with drawn:=w.drawn+1}) ⟨rfl,rfl,rfl,aGh _,λ_ _=>rfl⟩ h))
end
section
variable {P:Program} {ops:Array Oper} {Q:Exit->Act->World->Prop} {md:Region.Mode} {E:Nat}
def kU (P:Program) (md:Region.Mode) (ops:Array Oper) (Q:Exit->Act->World->Prop) (E:Nat):Nat->Array Bool->Act->World->Prop
 |0,listed,a,w=>Region.ready md ops listed=[]/\∀x,Ge w x->Q .normal a x
 |fuel+1,listed,a,w=>∀x,Ge w x->(Region.ready md ops listed=[]->Q .normal a x)/\∀i∈Region.ready md ops listed,
  (i=E->wpOp P ops Q i (λa' y=>wpAny P md ops Q fuel (listed.setIfInBounds i true) a' y) a x)/\
  (i≠E->wpOp P ops Q i (λa' y=>Ge x y/\kU P md ops Q E fuel (listed.setIfInBounds i true) a' y) a x)
theorem Dv {fuel:Nat} {listed:Array Bool} {a:Act} {w x:World} (hx:Ge w x) (h:kU P md ops Q E fuel listed a w):kU P md ops Q E fuel listed a x:=by
 exact ae1
theorem yC:∀(fuel:Nat) (listed:Array Bool) (a:Act) (w:World),kU P md ops Q E fuel listed a w->wpAny P md ops Q fuel listed a w
 |0,_,_,w,h=>⟨h.1,h.2 w (aGs _ _)⟩
 |fuel+1,_,_,w,h=>⟨(h w (aGs _ _)).1,λi hi=>by
  by_cases hE:i=E
  .exact((h w (aGs _ _)).2 i hi).1 hE
  .exact wpOp_mono (λa' y hy=>yC fuel _ a' y hy.2) (((h w (aGs _ _)).2 i hi).2 hE)⟩
theorem Bl {i:Nat} {oi:Oper} {v:Value} (n:Nat) (hi:ops[i]?=some oi) (hE:i∈JZ md ops E n) (hsel:∀(j:Nat) (o:Oper) cs b,ops[j]?=some o->o.op≠ .select cs b) (hQ:∀c a w,Q (.panic c) (a.put oi.dst v) w->Q (.panic c) a w):
 ∀(fuel:Nat) (listed:Array Bool) (a:Act) (w:World),pV md ops listed->
  (∀j oj,ops[j]?=some oj->j≠i->listed.getD j true=false->(∀e∈oj.after,Region.binds md e=true->e.on≠i)->oi.apart ops oj=true)->
  i∈Region.ready md ops listed->pW P ops oi v a w->kU P md ops Q E fuel (listed.setIfInBounds i true) (a.put oi.dst v) w->kU P md ops Q E (fuel+1) listed a w:=by
 open aqQ in exact akM
theorem Sk (i n:Nat) {oi:Oper} {fuel:Nat} {listed:Array Bool} {a:Act} {w:World} (hi:ops[i]?=some oi) (hs:Region.noSelect ops=true) (hf:Region.free md ops listed i=true) (hr:(Region.ready md ops listed).contains i=true)
 (hcl:nT md ops listed=true) (hE:(JZ md ops E n).contains i=true)
 (hQ:∀v c a w,Q (.panic c) (a.put oi.dst v) w->Q (.panic c) a w)
 (h:∀K:Act->Prop,(∀a',kU P md ops Q E fuel (listed.setIfInBounds i true) a' w->K a')->if Region.wanted oi (yielded ops a.tmps) then∃v,(∀p:Regrown,Oper.quietUpon P (Ge (Gr w p)) (Gr w p) v ((execOp a.eval oi).run P (Gr w p)))/\K (a.put oi.dst v) else K (a.put oi.dst undef)):
 kU P md ops Q E (fuel+1) listed a w:=by
 have h':=h _ λ_ h=>h
 have hE':i∈JZ md ops E n:=Abl
 by_cases hw:Region.wanted oi (yielded ops a.tmps)=true
 .rw [aGC hw] at h';obtain⟨v,hv,hk⟩:=h';refine Bl n hi hE' (aHc hs) (hQ v) fuel listed a w (iM hcl) (aHv hi hf) Aau (.inl ⟨hw,λx hx=>?_⟩) hk;exact abx
 .rw [aGr hw] at h';exact Bl n hi hE' (aHc hs) (hQ undef) fuel listed a w (iM hcl) (aHv hi hf) Aau (.inr ⟨Aca,rfl⟩) h'
theorem VD (i:Nat) {oi:Oper} {fuel:Nat} {listed:Array Bool} {a:Act} {w:World} (hi:ops[i]?=some oi) (hr:Region.ready md ops listed=[i]) (hw:Region.wanted oi (yielded ops a.tmps)=true) (hiE:i≠E)
 (h:∀x,Ge w x->oi.wp P a x (λa' y=>Ge x y/\kU P md ops Q E fuel (listed.setIfInBounds i true) a' y) Q):kU P md ops Q E (fuel+1) listed a w:=by
 exact ak4
theorem VE (i:Nat) {oi oj:Oper} {fuel:Nat} {listed:Array Bool} {a:Act} {w:World} (hi:ops[i]?=some oi) (hj:ops[E]?=some oj) (hr:Region.ready md ops listed=[i,E]) (hwi:Region.wanted oi (yielded ops a.tmps)=true) (hwj:Region.wanted oj (yielded ops a.tmps)=true) (hiE:i≠E)
 (h1:∀x,Ge w x->oi.wp P a x (λa' y=>Ge x y/\kU P md ops Q E fuel (listed.setIfInBounds i true) a' y) Q)
 (h2:∀x,Ge w x->oj.wp P a x (wpAny P md ops Q fuel (listed.setIfInBounds E true)) Q):kU P md ops Q E (fuel+1) listed a w:=by
 intro x hx;rw [hr];refine⟨λh=>Aat,λk hk=>?_⟩;have hk':k=i\/k=E:=Abn
 rcases hk' with rfl|rfl
 .refine⟨λe=>absurd e hiE,λ_=>?_⟩;exact abo
 .refine⟨λ_=>?_,λe=>absurd rfl e⟩;exact abp
theorem Oh {fuel:Nat} {listed:Array Bool} {a:Act} {w:World} (hr:Region.ready md ops listed=[E]) (h:∀x,Ge w x->wpAny P md ops Q (fuel+1) listed a x):kU P md ops Q E (fuel+1) listed a w:=λx hx=>⟨(h x hx).1,λi hi=>⟨λ_=>(h x hx).2 i hi,λhne=>absurd Ade hne⟩⟩
theorem Ho (E:Nat) {id:Nat} {a:Act} {w:World} (hm:P.follows .mixedOrders=true) (h:kU P .any ops Q E ops.size (Array.replicate ops.size false) a w):(Code.region id ops true).wp P Q a w:=
 wp_region_any hm (yC _ _ _ _ (Dv (w:=w) (x:={w with drawn:=w.drawn+1}) ⟨rfl,rfl,rfl,aGh _,λ_ _=>rfl⟩ h))
end
section
variable {P:Program} {ops:Array Oper} {Q:Exit->Act->World->Prop} {md:Region.Mode} {E b:Nat}
def jv (P:Program) (md:Region.Mode) (ops:Array Oper) (Q:Exit->Act->World->Prop) (E b:Nat):Nat->Array Bool->Act->World->Prop
 |0,listed,a,w=>Region.ready md ops listed=[]/\∀x,Ge w x->Q .normal a x
 |fuel+1,listed,a,w=>∀x,Ge w x->(Region.ready md ops listed=[]->Q .normal a x)/\∀i∈Region.ready md ops listed,
  (i=E->wpOp P ops Q i (λa' y=>wpAny P md ops Q fuel (listed.setIfInBounds i true) a' y) a x)/\
  (i≠E->wpOp P ops Q i (λa' y=>Below b x y/\jv P md ops Q E b fuel (listed.setIfInBounds i true) a' y) a x)
theorem Du {fuel:Nat} {listed:Array Bool} {a:Act} {w x:World} (hx:Ge w x) (h:jv P md ops Q E b fuel listed a w):jv P md ops Q E b fuel listed a x:=by
 exact ae1
theorem yB:∀(fuel:Nat) (listed:Array Bool) (a:Act) (w:World),jv P md ops Q E b fuel listed a w->wpAny P md ops Q fuel listed a w
 |0,_,_,w,h=>⟨h.1,h.2 w (aGs _ _)⟩
 |fuel+1,_,_,w,h=>⟨(h w (aGs _ _)).1,λi hi=>by
  by_cases hE:i=E
  .exact((h w (aGs _ _)).2 i hi).1 hE
  .exact wpOp_mono (λa' y hy=>yB fuel _ a' y hy.2) (((h w (aGs _ _)).2 i hi).2 hE)⟩
def Em (P:Program) (ops:Array Oper) (b:Nat) (o:Oper) (v:Value) (a:Act) (w:World):Prop:=
 (Region.wanted o (yielded ops a.tmps)=true/\∀x,Below b w x->Oper.quietUpon P (Ge x) x v ((execOp a.eval o).run P x))\/(Region.wanted o (yielded ops a.tmps)=false/\v=undef)
theorem Em.toG {o:Oper} {v:Value} {a:Act} {w:World} (h:Em P ops b o v a w) (hb:b<=w.heap.size):pW P ops o v a w:=h.imp (fun⟨p,q⟩=>⟨p,λx hx=>q x (hx.mono hb)⟩) id
theorem Bh {i:Nat} {oi:Oper} {v:Value} (n:Nat) (hi:ops[i]?=some oi) (hE:i∈JZ md ops E n) (hsel:∀(j:Nat) (o:Oper) cs b,ops[j]?=some o->o.op≠ .select cs b) (hQ:∀c a w,Q (.panic c) (a.put oi.dst v) w->Q (.panic c) a w):
 ∀(fuel:Nat) (listed:Array Bool) (a:Act) (w:World),b<=w.heap.size->pV md ops listed->
  (∀j oj,ops[j]?=some oj->j≠i->listed.getD j true=false->(∀e∈oj.after,Region.binds md e=true->e.on≠i)->oi.apart ops oj=true)->
  i∈Region.ready md ops listed->Em P ops b oi v a w->jv P md ops Q E b fuel (listed.setIfInBounds i true) (a.put oi.dst v) w->jv P md ops Q E b (fuel+1) listed a w:=by
 open aqR in exact akM
structure Und (b:Nat) (w:World) where
 x:World
 h:Below b w x
theorem dz {b:Nat} {w:World} {g i:Nat} {v:Option Value} (hg:g < b) (h:w.cell? ⟨g,i,none⟩=v):∀p:Und b w,p.x.cell? ⟨g,i,none⟩=v:=λp=>(p.h.cell (p:=⟨g,i,none⟩) hg).trans h
theorem Sj (i n:Nat) {oi:Oper} {fuel:Nat} {listed:Array Bool} {a:Act} {w:World} (hb:b<=w.heap.size) (hi:ops[i]?=some oi) (hs:Region.noSelect ops=true) (hf:Region.free md ops listed i=true) (hr:(Region.ready md ops listed).contains i=true)
 (hcl:nT md ops listed=true) (hE:(JZ md ops E n).contains i=true)
 (hQ:∀v c a w,Q (.panic c) (a.put oi.dst v) w->Q (.panic c) a w)
 (h:∀K:Act->Prop,(∀a',jv P md ops Q E b fuel (listed.setIfInBounds i true) a' w->K a')->if Region.wanted oi (yielded ops a.tmps) then∃v,(∀p:Und b w,Oper.quietUpon P (Ge p.x) p.x v ((execOp a.eval oi).run P p.x))/\K (a.put oi.dst v) else K (a.put oi.dst undef)):
 jv P md ops Q E b (fuel+1) listed a w:=by
 have h':=h _ λ_ h=>h
 have hE':i∈JZ md ops E n:=Abl
 by_cases hw:Region.wanted oi (yielded ops a.tmps)=true
 .rw [aGC hw] at h';obtain⟨v,hv,hk⟩:=h';exact Bh n hi hE' (aHc hs) (hQ v) fuel listed a w hb (iM hcl) (aHv hi hf) Aau (.inl ⟨hw,λx hx=>hv ⟨x,hx⟩⟩) hk
 .rw [aGr hw] at h';exact Bh n hi hE' (aHc hs) (hQ undef) fuel listed a w hb (iM hcl) (aHv hi hf) Aau (.inr ⟨Aca,rfl⟩) h'
theorem gL (i:Nat) {oi:Oper} {fuel:Nat} {listed:Array Bool} {a:Act} {w:World} (hi:ops[i]?=some oi) (hr:Region.ready md ops listed=[i]) (hw:Region.wanted oi (yielded ops a.tmps)=true) (hiE:i≠E)
 (h:∀x,Ge w x->oi.wp P a x (λa' y=>Below b x y/\jv P md ops Q E b fuel (listed.setIfInBounds i true) a' y) Q):jv P md ops Q E b (fuel+1) listed a w:=by
 exact ak4
theorem nS (i j:Nat) {oi oj:Oper} {fuel:Nat} {listed:Array Bool} {a:Act} {w:World} (hi:ops[i]?=some oi) (hj:ops[j]?=some oj) (hr:Region.ready md ops listed=[i,j]) (hwi:Region.wanted oi (yielded ops a.tmps)=true) (hwj:Region.wanted oj (yielded ops a.tmps)=true) (hiE:i≠E) (hjE:j≠E)
 (h1:∀x,Ge w x->oi.wp P a x (λa' y=>Below b x y/\jv P md ops Q E b fuel (listed.setIfInBounds i true) a' y) Q)
 (h2:∀x,Ge w x->oj.wp P a x (λa' y=>Below b x y/\jv P md ops Q E b fuel (listed.setIfInBounds j true) a' y) Q):jv P md ops Q E b (fuel+1) listed a w:=by
 intro x hx;rw [hr];refine⟨λh=>Aat,λk hk=>?_⟩;have hk':k=i\/k=j:=Abn
 rcases hk' with rfl|rfl
 .refine⟨λe=>absurd e hiE,λ_=>?_⟩;exact abo
 .refine⟨λe=>absurd e hjE,λ_=>?_⟩;exact abp
theorem qd {fuel:Nat} {listed:Array Bool} {a:Act} {w:World} (hr:Region.ready md ops listed=[E]) (h:∀x,Ge w x->wpAny P md ops Q (fuel+1) listed a x):jv P md ops Q E b (fuel+1) listed a w:=λx hx=>⟨(h x hx).1,λi hi=>⟨λ_=>(h x hx).2 i hi,λhne=>absurd Ade hne⟩⟩
theorem mY (E b:Nat) {id:Nat} {a:Act} {w:World} (hm:P.follows .mixedOrders=true) (h:jv P .any ops Q E b ops.size (Array.replicate ops.size false) a w):(Code.region id ops true).wp P Q a w:=
 wp_region_any hm (yB (E:=E) (b:=b) _ _ _ _ (Du (w:=w) (x:={w with drawn:=w.drawn+1}) ⟨rfl,rfl,rfl,aGh _,λ_ _=>rfl⟩ h))
end
section
variable {P:Program} {ops:Array Oper} {Q:Exit->Act->World->Prop} {md:Region.Mode} {E b:Nat} {is:List Nat} {i:Nat} {oi:Oper} {fuel:Nat} {listed:Array Bool} {a:Act} {w:World}
def TkL (_:List Nat) (p:Prop):Prop:=p
theorem tk (is:List Nat) {p:Prop} (h:TkL is p):p:=h
theorem kD {p:Prop} (h:p):TkL [] p:=h
theorem BA (h:∀K:Act->Prop,(∀a',TkL is (iq P md ops Q fuel (listed.setIfInBounds i true) a' w)->K a')->if Region.wanted oi (yielded ops a.tmps) then∃v,(∀p:Regrown,Oper.quietUpon P (Ge (Gr w p)) (Gr w p) v ((execOp a.eval oi).run P (Gr w p)))/\K (a.put oi.dst v) else K (a.put oi.dst undef)) (hi:ops[i]?=some oi:=by rfl) (hs:Region.noSelect ops=true:=by kernel_rfl) (hf:Region.free md ops listed i=true:=by kernel_rfl) (hr:(Region.ready md ops listed).contains i=true:=by kernel_rfl) (hQ:∀v c a w,Q (.panic c) (a.put oi.dst v) w->Q (.panic c) a w:=by exact λ_ _ _ _ h=>h):TkL (i::is) (iq P md ops Q (fuel+1) listed a w):=
 aV i hi hs hf hr hQ h
theorem vX (h:∀K:Act->Prop,(∀a',TkL is (fA P md ops Q E fuel (listed.setIfInBounds i true) a' w)->K a')->if Region.wanted oi (yielded ops a.tmps) then∃v,(∀p:Regrown,Oper.quietUpon P (Ge (Gr w p)) (Gr w p) v ((execOp a.eval oi).run P (Gr w p)))/\K (a.put oi.dst v) else K (a.put oi.dst undef)) (hi:ops[i]?=some oi:=by rfl) (hs:Region.noSelect ops=true:=by kernel_rfl) (hf:Region.free md ops listed i=true:=by kernel_rfl) (hr:(Region.ready md ops listed).contains i=true:=by kernel_rfl) (hcl:nT md ops listed=true:=by kernel_rfl) (hE:(JZ md ops E 20).contains i=true:=by kernel_rfl) (hQ:∀v c a w,Q (.panic c) (a.put oi.dst v) w->Q (.panic c) a w:=by exact λ_ _ _ _ h=>h):TkL (i::is) (fA P md ops Q E (fuel+1) listed a w):=
 eX i 20 hi hs hf hr hcl hE hQ h
theorem tkF (h:∀K:Act->Prop,(∀a',TkL is (kU P md ops Q E fuel (listed.setIfInBounds i true) a' w)->K a')->if Region.wanted oi (yielded ops a.tmps) then∃v,(∀p:Regrown,Oper.quietUpon P (Ge (Gr w p)) (Gr w p) v ((execOp a.eval oi).run P (Gr w p)))/\K (a.put oi.dst v) else K (a.put oi.dst undef)) (hi:ops[i]?=some oi:=by rfl) (hs:Region.noSelect ops=true:=by kernel_rfl) (hf:Region.free md ops listed i=true:=by kernel_rfl) (hr:(Region.ready md ops listed).contains i=true:=by kernel_rfl) (hcl:nT md ops listed=true:=by kernel_rfl) (hE:(JZ md ops E 20).contains i=true:=by kernel_rfl) (hQ:∀v c a w,Q (.panic c) (a.put oi.dst v) w->Q (.panic c) a w:=by exact λ_ _ _ _ h=>h):TkL (i::is) (kU P md ops Q E (fuel+1) listed a w):=
 Sk i 20 hi hs hf hr hcl hE hQ h
theorem tkB (hb:b<=w.heap.size) (h:∀K:Act->Prop,(∀a',TkL is (jv P md ops Q E b fuel (listed.setIfInBounds i true) a' w)->K a')->if Region.wanted oi (yielded ops a.tmps) then∃v,(∀p:Und b w,Oper.quietUpon P (Ge p.x) p.x v ((execOp a.eval oi).run P p.x))/\K (a.put oi.dst v) else K (a.put oi.dst undef)) (hi:ops[i]?=some oi:=by rfl) (hs:Region.noSelect ops=true:=by kernel_rfl) (hf:Region.free md ops listed i=true:=by kernel_rfl) (hr:(Region.ready md ops listed).contains i=true:=by kernel_rfl) (hcl:nT md ops listed=true:=by kernel_rfl) (hE:(JZ md ops E 20).contains i=true:=by kernel_rfl) (hQ:∀v c a w,Q (.panic c) (a.put oi.dst v) w->Q (.panic c) a w:=by exact λ_ _ _ _ h=>h):TkL (i::is) (jv P md ops Q E b (fuel+1) listed a w):=
 Sj i 20 hb hi hs hf hr hcl hE hQ h
end
section
variable {P:Program} {ops:Array Oper} {Q:Exit->Act->World->Prop} {md:Region.Mode} {E b:Nat}
def abH (Q:Exit->Act->World->Prop):Exit->Act->World->Prop:=λe a w=>match e with
 | .panic _=>False
 |e=>Q e a w
theorem Xy {c:Code} {a:Act} {w:World} (h:Code.wp P c (abH Q) a w):Code.wp P c Q a w:=
 Code.wp_mono (λe a w h=>by cases e<;>first|exact h|exact h.elim) h
theorem CG {fn:Func} {p:Tmp} {ty:TypeId} (h:fn.results=#[.cell p ty]) (tmps:Array Value) (w:World) (g:Nat) (cs:List Value) (d:TypeDesc)
 (hp:tmps.getD p undef= .pointer (some ⟨g,0,none⟩)) (hc:w.rangeAt g 0 cs) (hu:P.underlying ty=some d) (hd:d.isRow=true) (hi:(P.info? ty).map (·.size)=some cs.length):
 (results fn tmps).run P w= .ok (.agg cs.toArray) w:=by
 exact ai0
end
end Go.Proofs.YtohmklmkjmlpjaaGreatDoor
