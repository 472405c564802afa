/- Parts. -/
import Derived.Test.YtdlokncalhopoaaGreatPy24
namespace Go.Proofs.YtdlokncalhopoaaGreat
open Go.RowKit
section
variable {P:Program} {ops:Array Oper} {Q:Exit→Act→World→Prop} {md:Region.Mode} {E b:Nat}
def wpMixB (P:Program) (md:Region.Mode) (ops:Array Oper) (Q:Exit→Act→World→Prop) (E b:Nat):Nat→Array Bool→Act→World→Prop
 |0,listed,a,w=>Region.ready md ops listed=[]∧∀x,Ge w x→Q .normal a x
 |fuel+1,listed,a,w=>∀x,Ge w x→(Region.ready md ops listed=[]→Q .normal a x)∧∀i∈Region.ready md ops listed,
  (i=E→wpOp P ops Q i (fun a' y=>wpAny P md ops Q fuel (listed.setIfInBounds i true) a' y) a x)∧
  (i≠E→wpOp P ops Q i (fun a' y=>Below b x y∧wpMixB P md ops Q E b fuel (listed.setIfInBounds i true) a' y) a x)
theorem wpMixB_grow {fuel:Nat} {listed:Array Bool} {a:Act} {w x:World} (hx:Ge w x) (h:wpMixB P md ops Q E b fuel listed a w):wpMixB P md ops Q E b fuel listed a x:=by
 cases fuel with
 |zero=>exact⟨h.1,fun y hy=>h.2 y (Ge.trans hx hy)⟩
 |succ fuel=>exact fun y hy=>h y (Ge.trans hx hy)
theorem wpAny_of_mixB:∀(fuel:Nat) (listed:Array Bool) (a:Act) (w:World),wpMixB P md ops Q E b fuel listed a w→wpAny P md ops Q fuel listed a w
 |0,_,_,w,h=>⟨h.1,h.2 w (Below.refl _ _)⟩
 |fuel+1,_,_,w,h=>⟨(h w (Below.refl _ _)).1,fun i hi=>by
  by_cases hE:i=E
  ·exact((h w (Below.refl _ _)).2 i hi).1 hE
  ·exact wpOp_mono (fun a' y hy=>wpAny_of_mixB fuel _ a' y hy.2) (((h w (Below.refl _ _)).2 i hi).2 hE)⟩
def YieldsB (P:Program) (ops:Array Oper) (b:Nat) (o:Oper) (v:Value) (a:Act) (w:World):Prop:=
 (Region.wanted o (yielded ops a.tmps)=true∧∀x,Below b w x→Oper.quietUpon P (Ge x) x v ((execOp a.eval o).run P x))∨(Region.wanted o (yielded ops a.tmps)=false∧v=undef)
theorem YieldsB.toG {o:Oper} {v:Value} {a:Act} {w:World} (h:YieldsB P ops b o v a w) (hb:b≤w.heap.size):YieldsG P ops o v a w:=h.imp (fun⟨p,q⟩=>⟨p,fun x hx=>q x (hx.mono hb)⟩) id
theorem wpMixB_first {i:Nat} {oi:Oper} {v:Value} (n:Nat) (hi:ops[i]?=some oi) (hE:i∈anc md ops E n) (hsel:∀(j:Nat) (o:Oper) cs b,ops[j]?=some o→o.op≠ .select cs b) (hQ:∀c a w,Q (.panic c) (a.put oi.dst v) w→Q (.panic c) a w):
 ∀(fuel:Nat) (listed:Array Bool) (a:Act) (w:World),b≤w.heap.size→ClosedL md ops listed→
  (∀j oj,ops[j]?=some oj→j≠i→listed.getD j true=false→(∀e∈oj.after,Region.binds md e=true→e.on≠i)→oi.apart ops oj=true)→
  i∈Region.ready md ops listed→YieldsB P ops b oi v a w→wpMixB P md ops Q E b fuel (listed.setIfInBounds i true) (a.put oi.dst v) w→wpMixB P md ops Q E b (fuel+1) listed a w:=by
 have hno:∀(listed:Array Bool),ClosedL md ops listed→i∈Region.ready md ops listed→E∉Region.ready md ops listed:=fun listed hcl hr hEr=>by
  have h3:=anc_listed hcl hEr n i hE
  have h4:=(mem_ready.1 hr).1
  rcases Nat.lt_or_ge i listed.size with h'|h'
  ·simp[h'] at h3 h4;rw [h4] at h3;cases h3
  ·simp[Array.getElem?_eq_none h'] at h3
 intro fuel
 induction fuel with
 |zero=>
  intro listed a w hb hcl _ hr hy H
  refine fun x hx=>⟨fun h=>(by rw [h] at hr;cases hr),fun j hj=>⟨fun e=>absurd (e▸hj) (hno listed hcl hr),fun _=>?_⟩⟩
  by_cases hji:j=i
  ·subst hji
   exact(hy.toG hb).wpOp hi hx fun y hy'=>⟨hy'.mono (Nat.le_trans hb hx.size),wpMixB_grow (Ge.trans hx hy') H⟩
  ·have:=ready_mono hj hji
   rw [H.1] at this
   cases this
 |succ fuel ih=>
  intro listed a w hb hcl hfree hr hy H
  refine fun x hx=>⟨fun h=>(by rw [h] at hr;cases hr),fun j hj=>⟨fun e=>absurd (e▸hj) (hno listed hcl hr),fun hjE=>?_⟩⟩
  by_cases hji:j=i
  ·subst hji
   exact(hy.toG hb).wpOp hi hx fun y hy'=>⟨hy'.mono (Nat.le_trans hb hx.size),wpMixB_grow (Ge.trans hx hy') H⟩
  ·have h1:=((H x hx).2 j (ready_mono hj hji)).2 hjE
   obtain⟨hjun,oj,hoj,hall⟩:=mem_ready.1 hj
   have hnot:∀e∈oj.after,Region.binds md e=true→e.on≠i:=fun e he hb heq=>by
    have h2:=hall e he hb
    have h0:=(mem_ready.1 hr).1
    rw [heq] at h2
    rcases Nat.lt_or_ge i listed.size with h'|h'
    ·simp[h'] at h0 h2;rw [h0] at h2;cases h2
    ·simp[Array.getElem?_eq_none h'] at h2
   have h2:=wpOp_past hoj (hfree j oj hoj hji hjun hnot) (fun cs b=>hsel i oi cs b hi) (fun cs b=>hsel j oj cs b hoj) hQ h1
   refine wpOp_mono (fun a' y hy2=>?_) h2
   obtain⟨⟨hs1,hs2⟩,hg,hm⟩:=hy2
   have hwy:Below b w y:=(hx.mono hb).trans hg
   refine⟨hg,ih (listed.setIfInBounds j true) a' y (Nat.le_trans hb hwy.size) (closed_set hcl hj) ?_ (ready_mono hr (Ne.symm hji)) ?_ ?_⟩
   ·intro k ok hk hki hun hno
    refine hfree k ok hk hki ?_ hno
    by_cases hjk:j=k
    ·subst hjk;exact hjun
    ·rw [getD_set_ne true hjk] at hun;exact hun
   ·unfold YieldsB at *
    rw [hs1,hs2]
    exact hy.imp (fun⟨p,q⟩=>⟨p,fun z hz=>q z (hwy.trans hz)⟩) id
   ·rw [Array.setIfInBounds_comm _ _ hji]
    exact hm
structure Und (b:Nat) (w:World) where
 x:World
 h:Below b w x
theorem cell_und {b:Nat} {w:World} {g i:Nat} {v:Option Value} (hg:g < b) (h:w.cell? ⟨g,i,none⟩=v):∀p:Und b w,p.x.cell? ⟨g,i,none⟩=v:=fun p=>(p.h.cell (p:=⟨g,i,none⟩) hg).trans h
theorem wpMixB_take (i n:Nat) {oi:Oper} {fuel:Nat} {listed:Array Bool} {a:Act} {w:World} (hb:b≤w.heap.size) (hi:ops[i]?=some oi) (hs:Region.noSelect ops=true) (hf:Region.free md ops listed i=true) (hr:(Region.ready md ops listed).contains i=true)
 (hcl:closedB md ops listed=true) (hE:(anc md ops E n).contains i=true)
 (hQ:∀v c a w,Q (.panic c) (a.put oi.dst v) w→Q (.panic c) a w)
 (h:∀K:Act→Prop,(∀a',wpMixB P md ops Q E b fuel (listed.setIfInBounds i true) a' w→K a')→if Region.wanted oi (yielded ops a.tmps) then∃v,(∀p:Und b w,Oper.quietUpon P (Ge p.x) p.x v ((execOp a.eval oi).run P p.x))∧K (a.put oi.dst v) else K (a.put oi.dst undef)):
 wpMixB P md ops Q E b (fuel+1) listed a w:=by
 have h':=h _ fun _ h=>h
 have hE':i∈anc md ops E n:=by simpa using hE
 by_cases hw:Region.wanted oi (yielded ops a.tmps)=true
 ·rw [if_pos hw] at h'
  obtain⟨v,hv,hk⟩:=h'
  exact wpMixB_first n hi hE' (Region.noSelect_spec hs) (hQ v) fuel listed a w hb (closedB_spec hcl) (Region.free_spec hi hf) (by simpa using hr) (.inl ⟨hw,fun x hx=>hv ⟨x,hx⟩⟩) hk
 ·rw [if_neg hw] at h'
  exact wpMixB_first n hi hE' (Region.noSelect_spec hs) (hQ undef) fuel listed a w hb (closedB_spec hcl) (Region.free_spec hi hf) (by simpa using hr) (.inr ⟨by simpa using hw,rfl⟩) h'
theorem wpMixB_one (i:Nat) {oi:Oper} {fuel:Nat} {listed:Array Bool} {a:Act} {w:World} (hi:ops[i]?=some oi) (hr:Region.ready md ops listed=[i]) (hw:Region.wanted oi (yielded ops a.tmps)=true) (hiE:i≠E)
 (h:∀x,Ge w x→oi.wp P a x (fun a' y=>Below b x y∧wpMixB P md ops Q E b fuel (listed.setIfInBounds i true) a' y) Q):wpMixB P md ops Q E b (fuel+1) listed a w:=by
 intro x hx
 rw [hr]
 refine⟨fun h=>(by cases h),fun j hj=>?_⟩
 obtain rfl:j=i:=by simpa using hj
 refine⟨fun e=>absurd e hiE,fun _=>?_⟩
 unfold wpOp
 simp only[hi]
 rw [if_pos hw]
 exact .inl (h x hx)
theorem wpMixB_two (i j:Nat) {oi oj:Oper} {fuel:Nat} {listed:Array Bool} {a:Act} {w:World} (hi:ops[i]?=some oi) (hj:ops[j]?=some oj) (hr:Region.ready md ops listed=[i,j]) (hwi:Region.wanted oi (yielded ops a.tmps)=true) (hwj:Region.wanted oj (yielded ops a.tmps)=true) (hiE:i≠E) (hjE:j≠E)
 (h1:∀x,Ge w x→oi.wp P a x (fun a' y=>Below b x y∧wpMixB P md ops Q E b fuel (listed.setIfInBounds i true) a' y) Q)
 (h2:∀x,Ge w x→oj.wp P a x (fun a' y=>Below b x y∧wpMixB P md ops Q E b fuel (listed.setIfInBounds j true) a' y) Q):wpMixB P md ops Q E b (fuel+1) listed a w:=by
 intro x hx
 rw [hr]
 refine⟨fun h=>(by cases h),fun k hk=>?_⟩
 have hk':k=i∨k=j:=by simpa using hk
 rcases hk' with rfl|rfl
 ·refine⟨fun e=>absurd e hiE,fun _=>?_⟩
  unfold wpOp
  simp only[hi]
  rw [if_pos hwi]
  exact .inl (h1 x hx)
 ·refine⟨fun e=>absurd e hjE,fun _=>?_⟩
  unfold wpOp
  simp only[hj]
  rw [if_pos hwj]
  exact .inl (h2 x hx)
theorem wpMixB_leave {fuel:Nat} {listed:Array Bool} {a:Act} {w:World} (hr:Region.ready md ops listed=[E]) (h:∀x,Ge w x→wpAny P md ops Q (fuel+1) listed a x):wpMixB P md ops Q E b (fuel+1) listed a w:=fun x hx=>⟨(h x hx).1,fun i hi=>⟨fun _=>(h x hx).2 i hi,fun hne=>absurd (by rw [hr] at hi;simpa using hi) hne⟩⟩
theorem wp_region_mixB (E b:Nat) {id:Nat} {a:Act} {w:World} (hm:P.follows .mixedOrders=true) (h:wpMixB P .any ops Q E b ops.size (Array.replicate ops.size false) a w):(Code.region id ops true).wp P Q a w:=
 wp_region_any hm (wpAny_of_mixB (E:=E) (b:=b) _ _ _ _ (wpMixB_grow (w:=w) (x:={w with drawn:=w.drawn+1}) ⟨rfl,rfl,rfl,Nat.le_refl _,fun _ _=>rfl⟩ h))
end
end Go.Proofs.YtdlokncalhopoaaGreat
