/- Parts. -/
import Derived.Test.YtbolgdleijjgfaaGreatDoorRf1
namespace Go.Proofs.YtbolgdleijjgfaaGreatDoor
open Go.Proofs.Tryz
open Go.RowKit
abbrev Ge (w w':World):Prop:=aH w w'
theorem Ge.trans {a b c:World} (h:Ge a b) (h':Ge b c):Ge a c:=Below.trans h (Below.mono h' (Below.size h))
abbrev Gr (w:World) (p:Regrown):World:=Sort.grow (redrawn w p.d) p.os
structure XI (R:World->World->Prop):Prop where
 ge:∀{x y},Ge x y->R x y
 trans:∀{x y z},R x y->R y z->R x z
theorem Xf:XI Ge:=⟨λh=>h,Ge.trans⟩
section
variable {P:Program} {ops:Array Oper} {Q:Exit->Act->World->Prop} {md:Region.Mode} {E:Nat} {R:World->World->Prop}
def yT (md:Region.Mode) (ops:Array Oper) (j:Nat):List Nat:=match ops[j]? with
 |some o=>(o.after.toList.filter (λe=>Region.binds md e)).map (λe=>e.on)
 |none=>[]
def aBZ (md:Region.Mode) (ops:Array Oper) (S:List Nat):List Nat:=(S++S.flatMap (yT md ops)).eraseDups
def Wt (md:Region.Mode) (ops:Array Oper) (E:Nat):Nat->List Nat
 |0=>yT md ops E
 |n+1=>aBZ md ops (Wt md ops E n)
def uG (md:Region.Mode) (ops:Array Oper) (L:Array Bool):Prop:=∀j oj,ops[j]?=some oj->L.getD j false=true->∀e∈oj.after,Region.binds md e=true->L.getD e.on false=true
def qj (md:Region.Mode) (ops:Array Oper) (L:Array Bool):Bool:=(List.range ops.size).all λj=> !(L.getD j false)||(yT md ops j).all (λk=>L.getD k false)
theorem zh {j:Nat} {oj:Oper} (hj:ops[j]?=some oj) {k:Nat}:k∈yT md ops j↔∃e∈oj.after,Region.binds md e=true/\e.on=k:=by
 unfold yT;rw [hj];simp only[aGq,aGM,Array.mem_toList_iff];constructor
 .rintro⟨e,⟨h1,h2⟩,h3⟩;exact⟨e,h1,h2,h3⟩
 .rintro⟨e,h1,h2,h3⟩;exact⟨e,⟨h1,h2⟩,h3⟩
theorem Aj {L:Array Bool} (h:qj md ops L=true):uG md ops L:=by
 intro j oj hj hl e he hb;unfold qj at h;rw [aGF] at h
 have hjs:j < ops.size:=by
  rcases aF2 j ops.size with h'|h'
  .exact h'
  .rw [aFO h'] at hj;cases hj
 have h1:=h j (aFU.2 hjs);rw [hl] at h1;simp only[Bool.not_true,Bool.false_or,aGF] at h1;exact h1 e.on ((zh hj).2 ⟨e,he,hb,rfl⟩)
theorem Tt {L:Array Bool} (hc:uG md ops L) (hE:E∈Region.ready md ops L):∀n,∀k∈Wt md ops E n,L.getD k false=true:=by
 obtain⟨_,o,ho,hall⟩:=mem_ready.1 hE;intro n;induction n with
 |zero=>
  intro k hk;obtain⟨e,he,hb,rfl⟩:=(zh ho).1 hk;exact hall e he hb
 |succ n ih=>
  intro k hk;have hk':k∈(Wt md ops E n++(Wt md ops E n).flatMap (yT md ops)).eraseDups:=hk;rw [List.mem_eraseDups,aFb,aGf] at hk';rcases hk' with h|⟨d,hd,hkd⟩
  .exact ih k h
  .cases hod:ops[d]? with
   |none=>unfold yT at hkd;rw [hod] at hkd;cases hkd
   |some od=>
    obtain⟨e,he,hb,rfl⟩:=(zh hod).1 hkd;exact hc d od hod (ih d hd) e he hb
theorem TG {L:Array Bool} {j:Nat} (hc:uG md ops L) (hj:j∈Region.ready md ops L):uG md ops (L.setIfInBounds j true):=by
 obtain⟨_,o,ho,hall⟩:=mem_ready.1 hj;intro k ok hk hl e he hb;by_cases hjk:j=k
 .subst hjk;obtain rfl:=aFI (ho.symm.trans hk);exact getD_set_true (hall e he hb)
 .rw [getD_set_ne false hjk] at hl;exact getD_set_true (hc k ok hk hl e he hb)
def iP (P:Program) (md:Region.Mode) (ops:Array Oper) (Q:Exit->Act->World->Prop) (E:Nat) (R:World->World->Prop):Nat->Array Bool->Act->World->Prop
 |0,listed,a,w=>Region.ready md ops listed=[]/\∀x,Ge w x->Q .normal a x
 |fuel+1,listed,a,w=>∀x,Ge w x->(Region.ready md ops listed=[]->Q .normal a x)/\∀i∈Region.ready md ops listed,
  (i=E->wpOp P ops Q i (λa' y=>wpAny P md ops Q fuel (listed.setIfInBounds i true) a' y) a x)/\
  (i≠E->wpOp P ops Q i (λa' y=>R x y/\iP P md ops Q E R fuel (listed.setIfInBounds i true) a' y) a x)
theorem xC {fuel:Nat} {listed:Array Bool} {a:Act} {w x:World} (hx:Ge w x) (h:iP P md ops Q E R fuel listed a w):iP P md ops Q E R fuel listed a x:=by
 cases fuel with
 |zero=>exact⟨h.1,λy hy=>h.2 y (Ge.trans hx hy)⟩
 |succ fuel=>exact λy hy=>h y (Ge.trans hx hy)
theorem sW:∀(fuel:Nat) (listed:Array Bool) (a:Act) (w:World),iP P md ops Q E R fuel listed a w->wpAny P md ops Q fuel listed a w
 |0,_,_,w,h=>⟨h.1,h.2 w (aE3 _ _)⟩
 |fuel+1,_,_,w,h=>⟨(h w (aE3 _ _)).1,λi hi=>by
  by_cases hE:i=E
  .exact((h w (aE3 _ _)).2 i hi).1 hE
  .exact wpOp_mono (λa' y hy=>sW fuel _ a' y hy.2) (((h w (aE3 _ _)).2 i hi).2 hE)⟩
def Ew (P:Program) (ops:Array Oper) (R:World->World->Prop) (o:Oper) (v:Value) (a:Act) (w:World):Prop:=
 (Region.wanted o (yielded ops a.tmps)=true/\∀x,R w x->Oper.quietUpon P (Ge x) x v ((execOp a.eval o).run P x))\/(Region.wanted o (yielded ops a.tmps)=false/\v=undef)
theorem Ew.wpOp {i:Nat} {o:Oper} {v:Value} {a:Act} {w x:World} (hi:ops[i]?=some o) (hy:Ew P ops R o v a w) (hx:R w x) {K:Act->World->Prop} (h:∀y,Ge x y->K (a.put o.dst v) y):wpOp P ops Q i K a x:=by
 unfold Go.wpOp;simp only[hi];rcases hy with⟨hw,hv⟩|⟨hw,rfl⟩
 .rw [aFc hw];left
  have h1:=hv x hx;unfold Oper.wp;generalize (execOp a.eval o).run P x=r at *;cases r with
  |halt e y=>simp only[Oper.quietUpon] at h1
  |ok n y=>
   cases n<;>simp only[Oper.quietUpon] at h1<;>simp only[Oper.upon]
   case value u=>obtain⟨rfl,rfl⟩:=h1;exact h _ (aE3 _ _)
   case skip=>obtain⟨rfl,rfl⟩:=h1;exact h _ (aE3 _ _)
   case enter f args=>
    obtain⟨rfl,hc⟩:=h1;exact hc.mono λe z ⟨he,hz⟩=>by subst he;exact h z hz
 .rw [aE2 (by rw [hw];simp)];exact h _ (aE3 _ _)
theorem Z5 {j:Nat} {oi oj:Oper} {v:Value} (hj:ops[j]?=some oj) (hap:oi.apart ops oj=true) (hsi:∀cs b,oi.op≠ .select cs b) (hsj:∀cs b,oj.op≠ .select cs b)
 (hQ:∀c a w,Q (.panic c) (a.put oi.dst v) w->Q (.panic c) a w) {K:Act->World->Prop} {a:Act} {x:World} (h:wpOp P ops Q j K (a.put oi.dst v) x):
 wpOp P ops Q j (λa' y=>(execOp a'.eval oi=execOp a.eval oi/\Region.wanted oi (yielded ops a'.tmps)=Region.wanted oi (yielded ops a.tmps))/\K (a'.put oi.dst v) y) a x:=by
 obtain⟨g1,g2,g3⟩:=Oper.apart_spec hap;have same:∀(b:Act) u,execOp (b.put oj.dst u).eval oi=execOp b.eval oi/\Region.wanted oi (yielded ops (b.put oj.dst u).tmps)=Region.wanted oi (yielded ops b.tmps):=λb u=>⟨execOp_put oi hsi b oj.dst u g3,wanted_put oi b oj.dst u g3⟩
 unfold wpOp at *;simp only[hj] at *;rw [wanted_put oj a oi.dst v g1] at h;by_cases hw:Region.wanted oj (yielded ops a.tmps)=true
 .rw [aFc hw] at h ⊢;rcases h with h|⟨h,hl⟩
  .left
   unfold Oper.wp at *;rw [execOp_put oj hsj a oi.dst v g1] at h;generalize (execOp a.eval oj).run P x=r at *;cases r with
   |halt e y=>cases e<;>simp only[Oper.upon] at h ⊢;exact hQ _ _ _ h
   |ok n y=>
    cases n<;>simp only[Oper.upon] at h ⊢
    case value u=>exact⟨same a u,by rw [<-Act.put_comm a v u g2];exact h⟩
    case skip=>exact⟨same a _,by rw [<-Act.put_comm a v undef g2];exact h⟩
    case defer d=>
     refine⟨same {a with defers:=d::a.defers} _,?_⟩;rw [<-Act.put_comm _ v undef g2,<-Act.put_defers];exact h
    case enter f args=>
     refine Calls.mono h λe z he=>?_
     cases e with
     |returned u=>exact⟨same a u,by rw [<-Act.put_comm a v u g2];exact he⟩
     |panicked c=>exact hQ _ _ _ he
     |outgrown=>exact he
    case row r args=>exact Rows.mono h λu z he=>⟨same a u,by rw [<-Act.put_comm a v u g2];exact he⟩
  .right
   refine⟨?_,hl⟩;unfold Oper.asks at *;rw [execOp_put oj hsj a oi.dst v g1] at h;exact h
 .rw [aE2 hw] at h ⊢;exact⟨same a _,by rw [<-Act.put_comm a v undef g2];exact h⟩
theorem qz {i:Nat} {oi:Oper} {v:Value} (n:Nat) (hR:XI R) (hi:ops[i]?=some oi) (hsel:∀(j:Nat) (o:Oper) cs b,ops[j]?=some o->o.op≠ .select cs b) (hQ:∀c a w,Q (.panic c) (a.put oi.dst v) w->Q (.panic c) a w):
 ∀(fuel:Nat) (listed:Array Bool) (a:Act) (w:World),(ops.size<=E\/i∈Wt md ops E n/\uG md ops listed)->
  (∀j oj,ops[j]?=some oj->j≠i->listed.getD j true=false->(∀e∈oj.after,Region.binds md e=true->e.on≠i)->oi.apart ops oj=true)->
  i∈Region.ready md ops listed->Ew P ops R oi v a w->iP P md ops Q E R fuel (listed.setIfInBounds i true) (a.put oi.dst v) w->iP P md ops Q E R (fuel+1) listed a w:=by
 have hun:∀{listed:Array Bool},i∈Region.ready md ops listed->listed.getD i false=true->False:=λ{listed} hr h3=>by
  have h4:=(mem_ready.1 hr).1
  rcases aF2 i listed.size with h'|h'
  .simp[h'] at h3 h4;rw [h4] at h3;cases h3
  .simp[aFO h'] at h3
 have hno:∀(listed:Array Bool),(ops.size<=E\/i∈Wt md ops E n/\uG md ops listed)->i∈Region.ready md ops listed->E∉Region.ready md ops listed:=λlisted hcl hr hEr=>by
  rcases hcl with h|⟨hE,hcl⟩
  .obtain⟨_,o,ho,_⟩:=mem_ready.1 hEr;rw [aFO h] at ho;cases ho
  .exact hun hr (Tt hcl hEr n i hE)
 intro fuel;induction fuel with
 |zero=>
  intro listed a w hcl _ hr hy H;refine λx hx=>⟨λh=>(by rw [h] at hr;cases hr),λj hj=>⟨λe=>absurd (e▸hj) (hno listed hcl hr),λ_=>?_⟩⟩
  by_cases hji:j=i
  .exact aiL
  .have:=ready_mono hj hji;rw [H.1] at this;cases this
 |succ fuel ih=>
  intro listed a w hcl hfree hr hy H;refine λx hx=>⟨λh=>(by rw [h] at hr;cases hr),λj hj=>⟨λe=>absurd (e▸hj) (hno listed hcl hr),λhjE=>?_⟩⟩
  by_cases hji:j=i
  .exact aiL
  .have h1:=((H x hx).2 j (ready_mono hj hji)).2 hjE;obtain⟨hjun,oj,hoj,hall⟩:=mem_ready.1 hj;have hnot:∀e∈oj.after,Region.binds md e=true->e.on≠i:=λe he hb heq=>hun hr (heq▸hall e he hb)
   have h2:=Z5 hoj (hfree j oj hoj hji hjun hnot) (λcs b=>hsel i oi cs b hi) (λcs b=>hsel j oj cs b hoj) hQ h1;refine wpOp_mono (λa' y hy2=>?_) h2;obtain⟨⟨hs1,hs2⟩,hg,hm⟩:=hy2;refine⟨hg,ih (listed.setIfInBounds j true) a' y (hcl.imp id (λh=>⟨h.1,TG h.2 hj⟩)) ?_ (ready_mono hr (Ne.symm hji)) ?_ ?_⟩
   .intro k ok hk hki hun hno;refine hfree k ok hk hki ?_ hno;by_cases hjk:j=k
    .subst hjk;exact hjun
    .rw [getD_set_ne true hjk] at hun;exact hun
   .unfold Ew at *;rw [hs1,hs2];exact hy.imp (fun⟨p,q⟩=>⟨p,λz hz=>q z (hR.trans (hR.trans (hR.ge hx) hg) hz)⟩) id
   .rw [Array.setIfInBounds_comm _ _ hji];exact hm
theorem lZ (i n:Nat) (hR:XI R) {I:Type} {w:World} {f:I->World} (hI:∀x,R w x->∃p,x=f p) {oi:Oper} {fuel:Nat} {listed:Array Bool} {a:Act}
 (h:∀K:Act->Prop,(∀a',iP P md ops Q E R fuel (listed.setIfInBounds i true) a' w->K a')->if Region.wanted oi (yielded ops a.tmps) then∃v,(∀p:I,Oper.quietUpon P (Ge (f p)) (f p) v ((execOp a.eval oi).run P (f p)))/\K (a.put oi.dst v) else K (a.put oi.dst undef))
 (hi:ops[i]?=some oi) (hs:Region.noSelect ops=true) (hf:Region.free md ops listed i=true) (hr:(Region.ready md ops listed).contains i=true)
 (hE:(decide (ops.size<=E)||(qj md ops listed&&(Wt md ops E n).contains i))=true)
 (hQ:∀v c a w,Q (.panic c) (a.put oi.dst v) w->Q (.panic c) a w):
 iP P md ops Q E R (fuel+1) listed a w:=by
 have h':=h _ λ_ h=>h
 have hE':ops.size<=E\/i∈Wt md ops E n/\uG md ops listed:=by
  rw [Bool.or_eq_true,aEX] at hE;exact hE.imp aFa (λh=>⟨by simpa using h.2,Aj h.1⟩)
 by_cases hw:Region.wanted oi (yielded ops a.tmps)=true
 .rw [aFc hw] at h';obtain⟨v,hv,hk⟩:=h';refine qz n hR hi (aGQ hs) (hQ v) fuel listed a w hE' (aGT hi hf) (by simpa using hr) (.inl ⟨hw,λx hx=>?_⟩) hk;obtain⟨p,rfl⟩:=hI x hx;exact hv p
 .rw [aE2 hw] at h';exact qz n hR hi (aGQ hs) (hQ undef) fuel listed a w hE' (aGT hi hf) (by simpa using hr) (.inr ⟨by simpa using hw,rfl⟩) h'
theorem vO (i:Nat) {oi:Oper} {fuel:Nat} {listed:Array Bool} {a:Act} {w:World} (hi:ops[i]?=some oi) (hr:Region.ready md ops listed=[i]) (hw:Region.wanted oi (yielded ops a.tmps)=true) (Mf:i≠E)
 (h:∀x,Ge w x->oi.wp P a x (λa' y=>R x y/\iP P md ops Q E R fuel (listed.setIfInBounds i true) a' y) Q):iP P md ops Q E R (fuel+1) listed a w:=by
 intro x hx;rw [hr];refine⟨λh=>Aba,λj hj=>?_⟩;obtain rfl:j=i:=Abd
 refine⟨λe=>absurd e Mf,λ_=>?_⟩;unfold wpOp;simp only[hi];rw [aFc hw];exact .inl (h x hx)
theorem zH (i j:Nat) {oi oj:Oper} {fuel:Nat} {listed:Array Bool} {a:Act} {w:World} (hi:ops[i]?=some oi) (hj:ops[j]?=some oj) (hr:Region.ready md ops listed=[i,j]) (hwi:Region.wanted oi (yielded ops a.tmps)=true) (hwj:Region.wanted oj (yielded ops a.tmps)=true) (Mf:i≠E)
 (h1:∀x,Ge w x->oi.wp P a x (λa' y=>R x y/\iP P md ops Q E R fuel (listed.setIfInBounds i true) a' y) Q)
 (h2:∀x,Ge w x->(j≠E->oj.wp P a x (λa' y=>R x y/\iP P md ops Q E R fuel (listed.setIfInBounds j true) a' y) Q)/\(j=E->oj.wp P a x (wpAny P md ops Q fuel (listed.setIfInBounds j true)) Q)):iP P md ops Q E R (fuel+1) listed a w:=by
 intro x hx;rw [hr];refine⟨λh=>Aba,λk hk=>?_⟩;have hk':k=i\/k=j:=Ace
 rcases hk' with rfl|rfl
 .refine⟨λe=>absurd e Mf,λ_=>?_⟩;unfold wpOp;simp only[hi];rw [aFc hwi];exact .inl (h1 x hx)
 .unfold wpOp;simp only[hj];refine⟨λe=>?_,λe=>?_⟩<;>rw [aFc hwj]
  .exact .inl ((h2 x hx).2 e)
  .exact .inl ((h2 x hx).1 e)
theorem vN {fuel:Nat} {listed:Array Bool} {a:Act} {w:World} (hr:Region.ready md ops listed=[E]) (h:∀x,Ge w x->wpAny P md ops Q (fuel+1) listed a x):iP P md ops Q E R (fuel+1) listed a w:=λx hx=>⟨(h x hx).1,λi hi=>⟨λ_=>(h x hx).2 i hi,λhne=>absurd (by rw [hr] at hi;simpa using hi) hne⟩⟩
theorem nu (E:Nat) {R:World->World->Prop} {id:Nat} {a:Act} {w:World} (hm:P.follows .mixedOrders=true) (h:iP P .any ops Q E R ops.size (Array.replicate ops.size false) a w):(Code.region id ops true).wp P Q a w:=
 wp_region_any hm (sW _ _ _ _ (xC (w:=w) (x:={w with drawn:=w.drawn+1}) ⟨rfl,rfl,rfl,aER _,λ_ _=>rfl⟩ h))
theorem FI (w:World):∀x,Ge w x->∃p,x=Gr w p:=λ_ hx=>regrown_of_below hx
abbrev iZ (P:Program) (md:Region.Mode) (ops:Array Oper) (Q:Exit->Act->World->Prop):Nat->Array Bool->Act->World->Prop:=iP P md ops Q ops.size Ge
theorem ak8 {i:Nat} {oi:Oper} (hi:ops[i]?=some oi):i≠ops.size:=Nat.ne_of_lt (Array.getElem?_eq_some_iff.1 hi).1
theorem gJ (i:Nat) {oi:Oper} {fuel:Nat} {listed:Array Bool} {a:Act} {w:World} (hi:ops[i]?=some oi) (hs:Region.noSelect ops=true) (hf:Region.free md ops listed i=true) (hr:(Region.ready md ops listed).contains i=true)
 (hQ:∀v c a w,Q (.panic c) (a.put oi.dst v) w->Q (.panic c) a w)
 (h:∀K:Act->Prop,(∀a',iZ P md ops Q fuel (listed.setIfInBounds i true) a' w->K a')->if Region.wanted oi (yielded ops a.tmps) then∃v,(∀p:Regrown,Oper.quietUpon P (Ge (Gr w p)) (Gr w p) v ((execOp a.eval oi).run P (Gr w p)))/\K (a.put oi.dst v) else K (a.put oi.dst undef)):
 iZ P md ops Q (fuel+1) listed a w:=lZ i 0 Xf (FI w) h hi hs hf hr Aac hQ
theorem fP (i:Nat) {oi:Oper} {fuel:Nat} {listed:Array Bool} {a:Act} {w:World} (hi:ops[i]?=some oi) (hr:Region.ready md ops listed=[i]) (hw:Region.wanted oi (yielded ops a.tmps)=true)
 (h:∀x,Ge w x->oi.wp P a x (λa' y=>Ge x y/\iZ P md ops Q fuel (listed.setIfInBounds i true) a' y) Q):iZ P md ops Q (fuel+1) listed a w:=vO i hi hr hw (ak8 hi) h
theorem dW {listed:Array Bool} {a:Act} {w:World} (hr:Region.ready md ops listed=[]) (h:∀x,Ge w x->Q .normal a x):iZ P md ops Q 0 listed a w:=⟨hr,h⟩
theorem bZ {id:Nat} {a:Act} {w:World} (hm:P.follows .mixedOrders=true) (h:iZ P .any ops Q ops.size (Array.replicate ops.size false) a w):(Code.region id ops true).wp P Q a w:=nu _ hm h
end
end Go.Proofs.YtbolgdleijjgfaaGreatDoor
namespace Go.Proofs.YtbolgdleijjgfaaGreatDoor.Mth
open Go.Proofs.Tryz
open Go.Lib (decDigits itoa)
theorem digits_small (v:Nat) (h:v < 10):decDigits v=[UInt8.ofNat (48+v)]:=by rw [decDigits,dif_pos h]
theorem digits_big (v:Nat) (h:¬v < 10):decDigits v=decDigits (v / 10)++[UInt8.ofNat (48+v % 10)]:=by rw [decDigits,dif_neg h]
end Go.Proofs.YtbolgdleijjgfaaGreatDoor.Mth
namespace Go.Proofs.YtbolgdleijjgfaaGreatDoor
open Go.Proofs.Tryz
open Go.RowKit
section
variable {P:Program} {ops:Array Oper} {Q:Exit->Act->World->Prop} {md:Region.Mode}
theorem yM {w x:World} {b o:Nat} {cs:List Value} (h:w.rangeAt b o cs) (hb:b < w.heap.size) (hx:Ge w x):x.rangeAt b o cs:=λj v hv=>by
 rw [Below.cell (p:=⟨b,o+j,none⟩) hx hb];exact h j v hv
theorem l7 (i:Nat) {oi:Oper} {fuel:Nat} {listed:Array Bool} {a:Act} {w:World} (hi:ops[i]?=some oi) (hs:Region.noSelect ops=true) (hf:Region.free md ops listed i=true) (hr:(Region.ready md ops listed).contains i=true)
 (hQ:∀v c a w,Q (.panic c) (a.put oi.dst v) w->Q (.panic c) a w) (hw:Region.wanted oi (yielded ops a.tmps)=true)
 (ty:TypeId) (x:Operand) (ho:oi.op= .load ty x) (b o:Nat) (hx:a.eval x= .pointer (some ⟨b,o,none⟩)) (cs:List Value) (d:TypeDesc) (hc:w.rangeAt b o cs) (hb:b < w.heap.size)
 (hu:P.underlying ty=some d) (hd:d.isRow=true) (hz:(P.info? ty).map (·.size)=some cs.length)
 (h:iZ P md ops Q fuel (listed.setIfInBounds i true) (a.put oi.dst (.agg cs.toArray)) w):iZ P md ops Q (fuel+1) listed a w:=by
 refine qz 0 Xf hi (aGQ hs) (hQ _) fuel listed a w (.inl (aER _)) (aGT hi hf) (by simpa using hr) (.inl ⟨hw,λy hy=>?_⟩) h;unfold execOp;simp only[ho,hx,Instr.loadAt,Instr.sureAddr,Sem.run_bind,Sem.run_pure,Result.andThen_ok,run_loadVar_mid y b o ty cs d (yM hc hb hy) hu hd hz];exact⟨rfl,rfl⟩
end
open Go.Shelf Go.Proofs
def vT:Go.Shelf.Ren:=⟨fun|17=>319|22=>312|29=>315|30=>316|36=>318|26=>311|33=>313|34=>314|38=>317|n=>n,fun|0=>0|3=>3|4=>4|9=>9|24=>354|40=>204|n=>n,λn=>n⟩
theorem uW:Lays2.n22 prog vT:={
 mixed:=Aab
 f17:=func319.trans (congrArg some Aab)
 f22:=func312.trans (congrArg some Aab)
 f29:=func315.trans (congrArg some Aab)
 f30:=func316.trans (congrArg some Aab)
 f36:=func318.trans (congrArg some Aab)
 t0:=underlying0
 a0:=isAgg0
 z0:=sizeOf0
 v0:=zeroValue0
 t3:=underlying3
 a3:=isAgg3
 z3:=sizeOf3
 v3:=zeroValue3
 t4:=underlying4
 a4:=isAgg4
 z4:=sizeOf4
 v4:=zeroValue4
 t9:=underlying9
 a9:=isAgg9
 z9:=sizeOf9
 v9:=zeroValue9
 t24:=underlying354
 a24:=isAgg354
 z24:=sizeOf354
 v24:=zeroValue354
 i9:=by kernel_rfl}
theorem Gc:Lays2.n26 prog vT:={
 mixed:=Aab
 f26:=func311.trans (congrArg some Aab)
 f33:=func313.trans (congrArg some Aab)
 f34:=func314.trans (congrArg some Aab)
 f38:=func317.trans (congrArg some Aab)
 t0:=underlying0
 a0:=isAgg0
 z0:=sizeOf0
 v0:=zeroValue0
 t3:=underlying3
 a3:=isAgg3
 z3:=sizeOf3
 v3:=zeroValue3
 t4:=underlying4
 a4:=isAgg4
 z4:=sizeOf4
 v4:=zeroValue4
 t9:=underlying9
 a9:=isAgg9
 z9:=sizeOf9
 v9:=zeroValue9
 t24:=underlying354
 a24:=isAgg354
 z24:=sizeOf354
 v24:=zeroValue354
 t40:=underlying204
 a40:=isAgg204
 z40:=sizeOf204
 v40:=zeroValue204}
open Go.RowKit
section
variable {P:Program} {ops:Array Oper} {Q:Exit->Act->World->Prop} {md:Region.Mode}
theorem uF {i:Nat} {oi:Oper} {K:Act->World->Prop} {a:Act} {x:World} (hi:ops[i]?=some oi) (hw:Region.wanted oi (yielded ops a.tmps)=true) (h:oi.wp P a x K Q):wpOp P ops Q i K a x:=by
 unfold wpOp;simp only[hi];rw [aFc hw];exact .inl h
theorem tX {j:Nat} {o:Oper} {L:Array Bool} (h1:L.getD j true=false) (ho:ops[j]?=some o) (h2:(o.after.all λe=> !Region.binds md e||L.getD e.on false)=true):Region.ready md ops L≠[]:=by
 have h:j∈Region.ready md ops L:=mem_ready.2 ⟨h1,o,ho,λe he hb=>by
  have h3:=Array.all_eq_true_iff_forall_mem.1 h2 e he
  simpa [hb] using h3⟩
 intro hn;rw [hn] at h;cases h
end
end Go.Proofs.YtbolgdleijjgfaaGreatDoor
