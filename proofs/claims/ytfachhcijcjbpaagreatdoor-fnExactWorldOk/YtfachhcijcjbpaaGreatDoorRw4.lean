/- Parts. -/
import Derived.Test.YtfachhcijcjbpaaGreatDoorRw1
namespace Go.Proofs.YtfachhcijcjbpaaGreatDoor
open Go.Proofs.Tryz
open Go.RowKit
abbrev Ge (w w':World):Prop:=aG w w'
theorem Ge.trans {a b c:World} (h:Ge a b) (h':Ge b c):Ge a c:=Below.trans h (Below.mono h' (Below.size h))
abbrev Gr (w:World) (p:Regrown):World:=Sort.grow (redrawn w p.d) p.os
structure XM (R:World->World->Prop):Prop where
 ge:∀{x y},Ge x y->R x y
 trans:∀{x y z},R x y->R y z->R x z
theorem Xo:XM Ge:=⟨λh=>h,Ge.trans⟩
section
variable {P:Program} {ops:Array Oper} {Q:Exit->Act->World->Prop} {md:Region.Mode} {E:Nat} {R:World->World->Prop}
def yE (md:Region.Mode) (ops:Array Oper) (j:Nat):List Nat:=match ops[j]? with
 |some o=>(o.after.toList.filter (λe=>Region.binds md e)).map (λe=>e.on)
 |none=>[]
def aBA (md:Region.Mode) (ops:Array Oper) (S:List Nat):List Nat:=(S++S.flatMap (yE md ops)).eraseDups
def WQ (md:Region.Mode) (ops:Array Oper) (E:Nat):Nat->List Nat
 |0=>yE md ops E
 |n+1=>aBA md ops (WQ md ops E n)
def tY (md:Region.Mode) (ops:Array Oper) (L:Array Bool):Prop:=∀j oj,ops[j]?=some oj->L.getD j false=true->∀e∈oj.after,Region.binds md e=true->L.getD e.on false=true
def oW (md:Region.Mode) (ops:Array Oper) (L:Array Bool):Bool:=(List.range ops.size).all λj=> !(L.getD j false)||(yE md ops j).all (λk=>L.getD k false)
theorem yP {j:Nat} {oj:Oper} (hj:ops[j]?=some oj) {k:Nat}:k∈yE md ops j↔∃e∈oj.after,Region.binds md e=true/\e.on=k:=by
 unfold yE;rw [hj];simp only[aFS,aGn,Array.mem_toList_iff];constructor
 .rintro⟨e,⟨h1,h2⟩,h3⟩;exact⟨e,h1,h2,h3⟩
 .rintro⟨e,h1,h2,h3⟩;exact⟨e,⟨h1,h2⟩,h3⟩
theorem zR {L:Array Bool} (h:oW md ops L=true):tY md ops L:=by
 intro j oj hj hl e he hb;unfold oW at h;rw [aF0] at h
 have hjs:j < ops.size:=by
  rcases aFD j ops.size with h'|h'
  .exact h'
  .rw [aFp h'] at hj;cases hj
 have h1:=h j (aFA.2 hjs);rw [hl] at h1;simp only[Bool.not_true,Bool.false_or,aF0] at h1;exact h1 e.on ((yP hj).2 ⟨e,he,hb,rfl⟩)
theorem TJ {L:Array Bool} (hc:tY md ops L) (hE:E∈Region.ready md ops L):∀n,∀k∈WQ md ops E n,L.getD k false=true:=by
 obtain⟨_,o,ho,hall⟩:=mem_ready.1 hE;intro n;induction n with
 |zero=>
  intro k hk;obtain⟨e,he,hb,rfl⟩:=(yP ho).1 hk;exact hall e he hb
 |succ n ih=>
  intro k hk;have hk':k∈(WQ md ops E n++(WQ md ops E n).flatMap (yE md ops)).eraseDups:=hk;rw [List.mem_eraseDups,aE0,aFQ] at hk';rcases hk' with h|⟨d,hd,hkd⟩
  .exact ih k h
  .cases hod:ops[d]? with
   |none=>unfold yE at hkd;rw [hod] at hkd;cases hkd
   |some od=>
    obtain⟨e,he,hb,rfl⟩:=(yP hod).1 hkd;exact hc d od hod (ih d hd) e he hb
theorem T9 {L:Array Bool} {j:Nat} (hc:tY md ops L) (hj:j∈Region.ready md ops L):tY md ops (L.setIfInBounds j true):=by
 obtain⟨_,o,ho,hall⟩:=mem_ready.1 hj;intro k ok hk hl e he hb;by_cases hjk:j=k
 .subst hjk;obtain rfl:=aFe (ho.symm.trans hk);exact getD_set_true (hall e he hb)
 .rw [getD_set_ne false hjk] at hl;exact getD_set_true (hc k ok hk hl e he hb)
def ig (P:Program) (md:Region.Mode) (ops:Array Oper) (Q:Exit->Act->World->Prop) (E:Nat) (R:World->World->Prop):Nat->Array Bool->Act->World->Prop
 |0,listed,a,w=>Region.ready md ops listed=[]/\∀x,Ge w x->Q .normal a x
 |fuel+1,listed,a,w=>∀x,Ge w x->(Region.ready md ops listed=[]->Q .normal a x)/\∀i∈Region.ready md ops listed,
  (i=E->wpOp P ops Q i (λa' y=>wpAny P md ops Q fuel (listed.setIfInBounds i true) a' y) a x)/\
  (i≠E->wpOp P ops Q i (λa' y=>R x y/\ig P md ops Q E R fuel (listed.setIfInBounds i true) a' y) a x)
theorem wI {fuel:Nat} {listed:Array Bool} {a:Act} {w x:World} (hx:Ge w x) (h:ig P md ops Q E R fuel listed a w):ig P md ops Q E R fuel listed a x:=by
 cases fuel with
 |zero=>exact⟨h.1,λy hy=>h.2 y (Ge.trans hx hy)⟩
 |succ fuel=>exact λy hy=>h y (Ge.trans hx hy)
theorem rO:∀(fuel:Nat) (listed:Array Bool) (a:Act) (w:World),ig P md ops Q E R fuel listed a w->wpAny P md ops Q fuel listed a w
 |0,_,_,w,h=>⟨h.1,h.2 w (aEK _ _)⟩
 |fuel+1,_,_,w,h=>⟨(h w (aEK _ _)).1,λi hi=>by
  by_cases hE:i=E
  .exact((h w (aEK _ _)).2 i hi).1 hE
  .exact wpOp_mono (λa' y hy=>rO fuel _ a' y hy.2) (((h w (aEK _ _)).2 i hi).2 hE)⟩
def Ei (P:Program) (ops:Array Oper) (R:World->World->Prop) (o:Oper) (v:Value) (a:Act) (w:World):Prop:=
 (Region.wanted o (yielded ops a.tmps)=true/\∀x,R w x->Oper.quietUpon P (Ge x) x v ((execOp a.eval o).run P x))\/(Region.wanted o (yielded ops a.tmps)=false/\v=undef)
theorem Ei.wpOp {i:Nat} {o:Oper} {v:Value} {a:Act} {w x:World} (hi:ops[i]?=some o) (hy:Ei P ops R o v a w) (hx:R w x) {K:Act->World->Prop} (h:∀y,Ge x y->K (a.put o.dst v) y):wpOp P ops Q i K a x:=by
 unfold Go.wpOp;simp only[hi];rcases hy with⟨hw,hv⟩|⟨hw,rfl⟩
 .rw [aER hw];left
  have h1:=hv x hx;unfold Oper.wp;generalize (execOp a.eval o).run P x=r at *;cases r with
  |halt e y=>simp only[Oper.quietUpon] at h1
  |ok n y=>
   cases n<;>simp only[Oper.quietUpon] at h1<;>simp only[Oper.upon]
   case value u=>obtain⟨rfl,rfl⟩:=h1;exact h _ (aEK _ _)
   case skip=>obtain⟨rfl,rfl⟩:=h1;exact h _ (aEK _ _)
   case enter f args=>
    obtain⟨rfl,hc⟩:=h1;exact hc.mono λe z ⟨he,hz⟩=>by subst he;exact h z hz
 .rw [aEG (by rw [hw];simp)];exact h _ (aEK _ _)
theorem aah {j:Nat} {oi oj:Oper} {v:Value} (hj:ops[j]?=some oj) (hap:oi.apart ops oj=true) (hsi:∀cs b,oi.op≠ .select cs b) (hsj:∀cs b,oj.op≠ .select cs b)
 (hQ:∀c a w,Q (.panic c) (a.put oi.dst v) w->Q (.panic c) a w) {K:Act->World->Prop} {a:Act} {x:World} (h:wpOp P ops Q j K (a.put oi.dst v) x):
 wpOp P ops Q j (λa' y=>(execOp a'.eval oi=execOp a.eval oi/\Region.wanted oi (yielded ops a'.tmps)=Region.wanted oi (yielded ops a.tmps))/\K (a'.put oi.dst v) y) a x:=by
 obtain⟨g1,g2,g3⟩:=Oper.apart_spec hap;have same:∀(b:Act) u,execOp (b.put oj.dst u).eval oi=execOp b.eval oi/\Region.wanted oi (yielded ops (b.put oj.dst u).tmps)=Region.wanted oi (yielded ops b.tmps):=λb u=>⟨execOp_put oi hsi b oj.dst u g3,wanted_put oi b oj.dst u g3⟩
 unfold wpOp at *;simp only[hj] at *;rw [wanted_put oj a oi.dst v g1] at h;by_cases hw:Region.wanted oj (yielded ops a.tmps)=true
 .rw [aER hw] at h ⊢;rcases h with h|⟨h,hl⟩
  .left
   unfold Oper.wp at *;rw [execOp_put oj hsj a oi.dst v g1] at h;generalize (execOp a.eval oj).run P x=r at *;cases r with
   |halt e y=>cases e<;>simp only[Oper.upon] at h ⊢;exact hQ _ _ _ h
   |ok n y=>
    cases n<;>simp only[Oper.upon] at h ⊢
    case value u=>exact⟨same a u,by rw [<-Act.put_comm a v u g2];exact h⟩
    case skip=>exact⟨same a _,by rw [<-Act.put_comm a v undef g2];exact h⟩
    case defer d=>
     refine⟨same {a with defers:=d::a.defers} _,?_⟩;rw [<-Act.put_comm _ v undef g2,<-Act.put_defers];exact h
    case enter f args=>
     refine Calls.mono h λe z he=>?_
     cases e with
     |returned u=>exact⟨same a u,by rw [<-Act.put_comm a v u g2];exact he⟩
     |panicked c=>exact hQ _ _ _ he
     |outgrown=>exact he
    case row r args=>exact Rows.mono h λu z he=>⟨same a u,by rw [<-Act.put_comm a v u g2];exact he⟩
  .right
   refine⟨?_,hl⟩;unfold Oper.asks at *;rw [execOp_put oj hsj a oi.dst v g1] at h;exact h
 .rw [aEG hw] at h ⊢;exact⟨same a _,by rw [<-Act.put_comm a v undef g2];exact h⟩
theorem pO {i:Nat} {oi:Oper} {v:Value} (n:Nat) (hR:XM R) (hi:ops[i]?=some oi) (hsel:∀(j:Nat) (o:Oper) cs b,ops[j]?=some o->o.op≠ .select cs b) (hQ:∀c a w,Q (.panic c) (a.put oi.dst v) w->Q (.panic c) a w):
 ∀(fuel:Nat) (listed:Array Bool) (a:Act) (w:World),(ops.size<=E\/i∈WQ md ops E n/\tY md ops listed)->
  (∀j oj,ops[j]?=some oj->j≠i->listed.getD j true=false->(∀e∈oj.after,Region.binds md e=true->e.on≠i)->oi.apart ops oj=true)->
  i∈Region.ready md ops listed->Ei P ops R oi v a w->ig P md ops Q E R fuel (listed.setIfInBounds i true) (a.put oi.dst v) w->ig P md ops Q E R (fuel+1) listed a w:=by
 have hun:∀{listed:Array Bool},i∈Region.ready md ops listed->listed.getD i false=true->False:=λ{listed} hr h3=>by
  have h4:=(mem_ready.1 hr).1
  rcases aFD i listed.size with h'|h'
  .simp[h'] at h3 h4;rw [h4] at h3;cases h3
  .simp[aFp h'] at h3
 have hno:∀(listed:Array Bool),(ops.size<=E\/i∈WQ md ops E n/\tY md ops listed)->i∈Region.ready md ops listed->E∉Region.ready md ops listed:=λlisted hcl hr hEr=>by
  rcases hcl with h|⟨hE,hcl⟩
  .obtain⟨_,o,ho,_⟩:=mem_ready.1 hEr;rw [aFp h] at ho;cases ho
  .exact hun hr (TJ hcl hEr n i hE)
 intro fuel;induction fuel with
 |zero=>
  intro listed a w hcl _ hr hy H;refine λx hx=>⟨λh=>(by rw [h] at hr;cases hr),λj hj=>⟨λe=>absurd (e▸hj) (hno listed hcl hr),λ_=>?_⟩⟩
  by_cases hji:j=i
  .exact aiV
  .have:=ready_mono hj hji;rw [H.1] at this;cases this
 |succ fuel ih=>
  intro listed a w hcl hfree hr hy H;refine λx hx=>⟨λh=>(by rw [h] at hr;cases hr),λj hj=>⟨λe=>absurd (e▸hj) (hno listed hcl hr),λhjE=>?_⟩⟩
  by_cases hji:j=i
  .exact aiV
  .have h1:=((H x hx).2 j (ready_mono hj hji)).2 hjE;obtain⟨hjun,oj,hoj,hall⟩:=mem_ready.1 hj;have hnot:∀e∈oj.after,Region.binds md e=true->e.on≠i:=λe he hb heq=>hun hr (heq▸hall e he hb)
   have h2:=aah hoj (hfree j oj hoj hji hjun hnot) (λcs b=>hsel i oi cs b hi) (λcs b=>hsel j oj cs b hoj) hQ h1;refine wpOp_mono (λa' y hy2=>?_) h2;obtain⟨⟨hs1,hs2⟩,hg,hm⟩:=hy2;refine⟨hg,ih (listed.setIfInBounds j true) a' y (hcl.imp id (λh=>⟨h.1,T9 h.2 hj⟩)) ?_ (ready_mono hr (Ne.symm hji)) ?_ ?_⟩
   .intro k ok hk hki hun hno;refine hfree k ok hk hki ?_ hno;by_cases hjk:j=k
    .subst hjk;exact hjun
    .rw [getD_set_ne true hjk] at hun;exact hun
   .unfold Ei at *;rw [hs1,hs2];exact hy.imp (fun⟨p,q⟩=>⟨p,λz hz=>q z (hR.trans (hR.trans (hR.ge hx) hg) hz)⟩) id
   .rw [Array.setIfInBounds_comm _ _ hji];exact hm
theorem lI (i n:Nat) (hR:XM R) {I:Type} {w:World} {f:I->World} (hI:∀x,R w x->∃p,x=f p) {oi:Oper} {fuel:Nat} {listed:Array Bool} {a:Act}
 (h:∀K:Act->Prop,(∀a',ig P md ops Q E R fuel (listed.setIfInBounds i true) a' w->K a')->if Region.wanted oi (yielded ops a.tmps) then∃v,(∀p:I,Oper.quietUpon P (Ge (f p)) (f p) v ((execOp a.eval oi).run P (f p)))/\K (a.put oi.dst v) else K (a.put oi.dst undef))
 (hi:ops[i]?=some oi) (hs:Region.noSelect ops=true) (hf:Region.free md ops listed i=true) (hr:(Region.ready md ops listed).contains i=true)
 (hE:(decide (ops.size<=E)||(oW md ops listed&&(WQ md ops E n).contains i))=true)
 (hQ:∀v c a w,Q (.panic c) (a.put oi.dst v) w->Q (.panic c) a w):
 ig P md ops Q E R (fuel+1) listed a w:=by
 have h':=h _ λ_ h=>h
 have hE':ops.size<=E\/i∈WQ md ops E n/\tY md ops listed:=by
  rw [Bool.or_eq_true,aED] at hE;exact hE.imp aEQ (λh=>⟨by simpa using h.2,zR h.1⟩)
 by_cases hw:Region.wanted oi (yielded ops a.tmps)=true
 .rw [aER hw] at h';obtain⟨v,hv,hk⟩:=h';refine pO n hR hi (aGq hs) (hQ v) fuel listed a w hE' (aGw hi hf) (by simpa using hr) (.inl ⟨hw,λx hx=>?_⟩) hk;obtain⟨p,rfl⟩:=hI x hx;exact hv p
 .rw [aEG hw] at h';exact pO n hR hi (aGq hs) (hQ undef) fuel listed a w hE' (aGw hi hf) (by simpa using hr) (.inr ⟨by simpa using hw,rfl⟩) h'
theorem uV (i:Nat) {oi:Oper} {fuel:Nat} {listed:Array Bool} {a:Act} {w:World} (hi:ops[i]?=some oi) (hr:Region.ready md ops listed=[i]) (hw:Region.wanted oi (yielded ops a.tmps)=true) (P6:i≠E)
 (h:∀x,Ge w x->oi.wp P a x (λa' y=>R x y/\ig P md ops Q E R fuel (listed.setIfInBounds i true) a' y) Q):ig P md ops Q E R (fuel+1) listed a w:=by
 intro x hx;rw [hr];refine⟨λh=>Abb,λj hj=>?_⟩;obtain rfl:j=i:=Abg
 refine⟨λe=>absurd e P6,λ_=>?_⟩;unfold wpOp;simp only[hi];rw [aER hw];exact .inl (h x hx)
theorem zn (i j:Nat) {oi oj:Oper} {fuel:Nat} {listed:Array Bool} {a:Act} {w:World} (hi:ops[i]?=some oi) (hj:ops[j]?=some oj) (hr:Region.ready md ops listed=[i,j]) (hwi:Region.wanted oi (yielded ops a.tmps)=true) (hwj:Region.wanted oj (yielded ops a.tmps)=true) (P6:i≠E)
 (h1:∀x,Ge w x->oi.wp P a x (λa' y=>R x y/\ig P md ops Q E R fuel (listed.setIfInBounds i true) a' y) Q)
 (h2:∀x,Ge w x->(j≠E->oj.wp P a x (λa' y=>R x y/\ig P md ops Q E R fuel (listed.setIfInBounds j true) a' y) Q)/\(j=E->oj.wp P a x (wpAny P md ops Q fuel (listed.setIfInBounds j true)) Q)):ig P md ops Q E R (fuel+1) listed a w:=by
 intro x hx;rw [hr];refine⟨λh=>Abb,λk hk=>?_⟩;have hk':k=i\/k=j:=Abt
 rcases hk' with rfl|rfl
 .refine⟨λe=>absurd e P6,λ_=>?_⟩;unfold wpOp;simp only[hi];rw [aER hwi];exact .inl (h1 x hx)
 .unfold wpOp;simp only[hj];refine⟨λe=>?_,λe=>?_⟩<;>rw [aER hwj]
  .exact .inl ((h2 x hx).2 e)
  .exact .inl ((h2 x hx).1 e)
theorem uU {fuel:Nat} {listed:Array Bool} {a:Act} {w:World} (hr:Region.ready md ops listed=[E]) (h:∀x,Ge w x->wpAny P md ops Q (fuel+1) listed a x):ig P md ops Q E R (fuel+1) listed a w:=λx hx=>⟨(h x hx).1,λi hi=>⟨λ_=>(h x hx).2 i hi,λhne=>absurd (by rw [hr] at hi;simpa using hi) hne⟩⟩
theorem jT (E:Nat) {R:World->World->Prop} {id:Nat} {a:Act} {w:World} (hm:P.follows .mixedOrders=true) (h:ig P .any ops Q E R ops.size (Array.replicate ops.size false) a w):(Code.region id ops true).wp P Q a w:=
 wp_region_any hm (rO _ _ _ _ (wI (w:=w) (x:={w with drawn:=w.drawn+1}) ⟨rfl,rfl,rfl,aEx _,λ_ _=>rfl⟩ h))
theorem Fz (w:World):∀x,Ge w x->∃p,x=Gr w p:=λ_ hx=>regrown_of_below hx
abbrev Bl (P:Program) (md:Region.Mode) (ops:Array Oper) (Q:Exit->Act->World->Prop):Nat->Array Bool->Act->World->Prop:=ig P md ops Q ops.size Ge
theorem alp {i:Nat} {oi:Oper} (hi:ops[i]?=some oi):i≠ops.size:=Nat.ne_of_lt (Array.getElem?_eq_some_iff.1 hi).1
theorem al3 (i:Nat) {oi:Oper} {fuel:Nat} {listed:Array Bool} {a:Act} {w:World} (hi:ops[i]?=some oi) (hs:Region.noSelect ops=true) (hf:Region.free md ops listed i=true) (hr:(Region.ready md ops listed).contains i=true)
 (hQ:∀v c a w,Q (.panic c) (a.put oi.dst v) w->Q (.panic c) a w)
 (h:∀K:Act->Prop,(∀a',Bl P md ops Q fuel (listed.setIfInBounds i true) a' w->K a')->if Region.wanted oi (yielded ops a.tmps) then∃v,(∀p:Regrown,Oper.quietUpon P (Ge (Gr w p)) (Gr w p) v ((execOp a.eval oi).run P (Gr w p)))/\K (a.put oi.dst v) else K (a.put oi.dst undef)):
 Bl P md ops Q (fuel+1) listed a w:=lI i 0 Xo (Fz w) h hi hs hf hr Aac hQ
theorem eu (i:Nat) {oi:Oper} {fuel:Nat} {listed:Array Bool} {a:Act} {w:World} (hi:ops[i]?=some oi) (hr:Region.ready md ops listed=[i]) (hw:Region.wanted oi (yielded ops a.tmps)=true)
 (h:∀x,Ge w x->oi.wp P a x (λa' y=>Ge x y/\Bl P md ops Q fuel (listed.setIfInBounds i true) a' y) Q):Bl P md ops Q (fuel+1) listed a w:=uV i hi hr hw (alp hi) h
theorem dJ {listed:Array Bool} {a:Act} {w:World} (hr:Region.ready md ops listed=[]) (h:∀x,Ge w x->Q .normal a x):Bl P md ops Q 0 listed a w:=⟨hr,h⟩
theorem ad9 {id:Nat} {a:Act} {w:World} (hm:P.follows .mixedOrders=true) (h:Bl P .any ops Q ops.size (Array.replicate ops.size false) a w):(Code.region id ops true).wp P Q a w:=jT _ hm h
end
section
variable {P:Program} {ops:Array Oper} {Q:Exit->Act->World->Prop} {md:Region.Mode} {E:Nat}
abbrev oD (P:Program) (md:Region.Mode) (ops:Array Oper) (Q:Exit->Act->World->Prop) (E:Nat):Nat->Array Bool->Act->World->Prop:=ig P md ops Q E Ge
theorem ajz (i n:Nat) {oi:Oper} {fuel:Nat} {listed:Array Bool} {a:Act} {w:World} (hi:ops[i]?=some oi) (hs:Region.noSelect ops=true) (hf:Region.free md ops listed i=true) (hr:(Region.ready md ops listed).contains i=true)
 (hcl:oW md ops listed=true) (hE:(WQ md ops E n).contains i=true)
 (hQ:∀v c a w,Q (.panic c) (a.put oi.dst v) w->Q (.panic c) a w)
 (h:∀K:Act->Prop,(∀a',oD P md ops Q E fuel (listed.setIfInBounds i true) a' w->K a')->if Region.wanted oi (yielded ops a.tmps) then∃v,(∀p:Regrown,Oper.quietUpon P (Ge (Gr w p)) (Gr w p) v ((execOp a.eval oi).run P (Gr w p)))/\K (a.put oi.dst v) else K (a.put oi.dst undef)):
 oD P md ops Q E (fuel+1) listed a w:=lI i n Xo (Fz w) h hi hs hf hr (by rw [hcl,hE];simp) hQ
theorem dB (i:Nat) {oi:Oper} {fuel:Nat} {listed:Array Bool} {a:Act} {w:World} (hi:ops[i]?=some oi) (hr:Region.ready md ops listed=[i]) (hw:Region.wanted oi (yielded ops a.tmps)=true)
 (h:∀x,Ge w x->oi.wp P a x (λa' y=>Ge x y/\oD P md ops Q E fuel (listed.setIfInBounds i true) a' y) Q) (P6:i≠E:=by decide):oD P md ops Q E (fuel+1) listed a w:=uV i hi hr hw P6 h
theorem zm (i j:Nat) {oi oj:Oper} {fuel:Nat} {listed:Array Bool} {a:Act} {w:World} (hi:ops[i]?=some oi) (hj:ops[j]?=some oj) (hr:Region.ready md ops listed=[i,j]) (hwi:Region.wanted oi (yielded ops a.tmps)=true) (hwj:Region.wanted oj (yielded ops a.tmps)=true)
 (h1:∀x,Ge w x->oi.wp P a x (λa' y=>Ge x y/\oD P md ops Q E fuel (listed.setIfInBounds i true) a' y) Q)
 (h2:∀x,Ge w x->oj.wp P a x (λa' y=>Ge x y/\oD P md ops Q E fuel (listed.setIfInBounds j true) a' y) Q) (P6:i≠E:=by decide) (hjE:j≠E:=by decide):oD P md ops Q E (fuel+1) listed a w:=zn i j hi hj hr hwi hwj P6 h1 λx hx=>⟨λ_=>h2 x hx,λe=>absurd e hjE⟩
theorem aS {fuel:Nat} {listed:Array Bool} {a:Act} {w:World} (hr:Region.ready md ops listed=[E]) (h:∀x,Ge w x->wpAny P md ops Q (fuel+1) listed a x):oD P md ops Q E (fuel+1) listed a w:=uU hr h
theorem aag (i:Nat) {oi:Oper} {fuel:Nat} {listed:Array Bool} {a:Act} {w:World} (hi:ops[i]?=some oi) (hr:Region.ready md ops listed=[i]) (hw:Region.wanted oi (yielded ops a.tmps)=true)
 (h:oi.wp P a w (wpAny P md ops Q fuel (listed.setIfInBounds i true)) Q):wpAny P md ops Q (fuel+1) listed a w:=by
 refine⟨λh=>(by rw [hr] at h;cases h),λj hj=>?_⟩;rw [hr] at hj;obtain rfl:j=i:=Abg
 unfold wpOp;simp only[hi];rw [aER hw];exact .inl h
theorem wpAny_done {listed:Array Bool} {a:Act} {w:World} (hr:Region.ready md ops listed=[]) (h:Q .normal a w):wpAny P md ops Q 0 listed a w:=⟨hr,h⟩
def wH (P:Program) (md:Region.Mode) (ops:Array Oper) (Q:Exit->Act->World->Prop) (fuel:Nat) (listed:Array Bool) (a:Act) (w:World):Prop:=∀x,Ge w x->wpAny P md ops Q fuel listed a x
theorem Dq (i:Nat) {oi:Oper} {fuel:Nat} {listed:Array Bool} {a:Act} {w:World} (hi:ops[i]?=some oi) (hs:Region.noSelect ops=true) (hf:Region.free md ops listed i=true) (hr:(Region.ready md ops listed).contains i=true)
 (hQ:∀v c a w,Q (.panic c) (a.put oi.dst v) w->Q (.panic c) a w)
 (h:∀K:Act->Prop,(∀a',wH P md ops Q fuel (listed.setIfInBounds i true) a' w->K a')->if Region.wanted oi (yielded ops a.tmps) then∃v,(∀x:World,(execOp a.eval oi).run P x= .ok (.value v) x)/\K (a.put oi.dst v) else K (a.put oi.dst undef)):
 wH P md ops Q (fuel+1) listed a w:=by
 have h':=h _ λ_ h=>h
 intro x hx;by_cases hw:Region.wanted oi (yielded ops a.tmps)=true
 .rw [aER hw] at h';obtain⟨v,hv,hk⟩:=h';exact wpAny_take hi hs hf hr (hQ v) (.inl ⟨hw,hv⟩) (hk x hx)
 .rw [aEG hw] at h';exact wpAny_take hi hs hf hr (hQ undef) (.inr ⟨by simpa using hw,rfl⟩) (h' x hx)
theorem rD (E:Nat) {fuel:Nat} {listed:Array Bool} {a:Act} {w:World} (h:oD P md ops Q E fuel listed a w):wH P md ops Q fuel listed a w:=λ_ hx=>rO _ _ _ _ (wI hx h)
theorem l7 {id:Nat} {a:Act} {w:World} (hm:P.follows .mixedOrders=true) (h:wH P .any ops Q ops.size (Array.replicate ops.size false) a w):(Code.region id ops true).wp P Q a w:=
 wp_region_any hm (h {w with drawn:=w.drawn+1} ⟨rfl,rfl,rfl,aEx _,λ_ _=>rfl⟩)
theorem ad5 (E:Nat) {id:Nat} {a:Act} {w:World} (hm:P.follows .mixedOrders=true) (h:oD P .any ops Q E ops.size (Array.replicate ops.size false) a w):(Code.region id ops true).wp P Q a w:=jT E hm h
end
section
variable {P:Program} {ops:Array Oper} {Q:Exit->Act->World->Prop} {md:Region.Mode} {E:Nat}
theorem VI (i:Nat) {oi oj:Oper} {fuel:Nat} {listed:Array Bool} {a:Act} {w:World} (hi:ops[i]?=some oi) (hj:ops[E]?=some oj) (hr:Region.ready md ops listed=[i,E]) (hwi:Region.wanted oi (yielded ops a.tmps)=true) (hwj:Region.wanted oj (yielded ops a.tmps)=true) (P6:i≠E)
 (h1:∀x,Ge w x->oi.wp P a x (λa' y=>Ge x y/\oD P md ops Q E fuel (listed.setIfInBounds i true) a' y) Q)
 (h2:∀x,Ge w x->oj.wp P a x (wpAny P md ops Q fuel (listed.setIfInBounds E true)) Q):oD P md ops Q E (fuel+1) listed a w:=zn i E hi hj hr hwi hwj P6 h1 λx hx=>⟨λe=>absurd rfl e,λ_=>h2 x hx⟩
end
section
variable {P:Program} {ops:Array Oper} {Q:Exit->Act->World->Prop} {md:Region.Mode} {E b:Nat}
structure RB (b:Nat) (w w':World):Prop where
 os:w'.os=w.os
 tape:w'.tape=w.tape
 output:w'.output=w.output
 size:w.heap.size<=w'.heap.size
 block:∀k,k < w.heap.size->k < b->w'.heap[k]?=w.heap[k]?
theorem Rb (b:Nat):XM (RB b):=⟨λh=>⟨h.os,h.tape,h.output,h.size,λk hk _=>h.block k hk⟩,λh k=>⟨k.os.trans h.os,k.tape.trans h.tape,k.output.trans h.output,aEA h.size k.size,λi hi hb=>(k.block i (aEH hi h.size) hb).trans (h.block i hi hb)⟩⟩
theorem RB.of {b:Nat} {w w':World} (h:Below b w w'):RB b w w':=⟨h.os,h.tape,h.output,h.size,λk _ hk=>h.block k hk⟩
abbrev lF (P:Program) (md:Region.Mode) (ops:Array Oper) (Q:Exit->Act->World->Prop) (E b:Nat):Nat->Array Bool->Act->World->Prop:=ig P md ops Q E (RB b)
structure But (R:World->World->Prop) (w:World) where
 x:World
 h:R w x
theorem TV {R:World->World->Prop} (w:World):∀x,R w x->∃p:But R w,x=p.x:=λx hx=>⟨⟨x,hx⟩,rfl⟩
abbrev Und (b:Nat) (w:World):=But (RB b) w
theorem bZ {b:Nat} {w:World} {g i:Nat} {v:Value} (hg:g < b) (h:w.cell? ⟨g,i,none⟩=some v):∀p:Und b w,p.x.cell? ⟨g,i,none⟩=some v:=λp=>(aE6 (w:=w) (p.h.block g (aFC w _ h) hg)).trans h
theorem ajy (i n:Nat) {oi:Oper} {fuel:Nat} {listed:Array Bool} {a:Act} {w:World} (_hb:b<=w.heap.size) (hi:ops[i]?=some oi) (hs:Region.noSelect ops=true) (hf:Region.free md ops listed i=true) (hr:(Region.ready md ops listed).contains i=true)
 (hcl:oW md ops listed=true) (hE:(WQ md ops E n).contains i=true)
 (hQ:∀v c a w,Q (.panic c) (a.put oi.dst v) w->Q (.panic c) a w)
 (h:∀K:Act->Prop,(∀a',lF P md ops Q E b fuel (listed.setIfInBounds i true) a' w->K a')->if Region.wanted oi (yielded ops a.tmps) then∃v,(∀p:Und b w,Oper.quietUpon P (Ge p.x) p.x v ((execOp a.eval oi).run P p.x))/\K (a.put oi.dst v) else K (a.put oi.dst undef)):
 lF P md ops Q E b (fuel+1) listed a w:=lI i n (Rb b) (TV w) h hi hs hf hr (by rw [hcl,hE];simp) hQ
theorem iT (i:Nat) {oi:Oper} {fuel:Nat} {listed:Array Bool} {a:Act} {w:World} (hi:ops[i]?=some oi) (hr:Region.ready md ops listed=[i]) (hw:Region.wanted oi (yielded ops a.tmps)=true) (P6:i≠E)
 (h:∀x,Ge w x->oi.wp P a x (λa' y=>Below b x y/\lF P md ops Q E b fuel (listed.setIfInBounds i true) a' y) Q):lF P md ops Q E b (fuel+1) listed a w:=uV i hi hr hw P6 λx hx=>Oper.wp_mono (λ_ _ h=>⟨.of h.1,h.2⟩) (h x hx)
theorem uT (i j:Nat) {oi oj:Oper} {fuel:Nat} {listed:Array Bool} {a:Act} {w:World} (hi:ops[i]?=some oi) (hj:ops[j]?=some oj) (hr:Region.ready md ops listed=[i,j]) (hwi:Region.wanted oi (yielded ops a.tmps)=true) (hwj:Region.wanted oj (yielded ops a.tmps)=true) (P6:i≠E) (hjE:j≠E)
 (h1:∀x,Ge w x->oi.wp P a x (λa' y=>Below b x y/\lF P md ops Q E b fuel (listed.setIfInBounds i true) a' y) Q)
 (h2:∀x,Ge w x->oj.wp P a x (λa' y=>Below b x y/\lF P md ops Q E b fuel (listed.setIfInBounds j true) a' y) Q):lF P md ops Q E b (fuel+1) listed a w:=zn i j hi hj hr hwi hwj P6 (λx hx=>Oper.wp_mono (λ_ _ h=>⟨.of h.1,h.2⟩) (h1 x hx)) λx hx=>⟨λ_=>Oper.wp_mono (λ_ _ h=>⟨.of h.1,h.2⟩) (h2 x hx),λe=>absurd e hjE⟩
theorem pJ {fuel:Nat} {listed:Array Bool} {a:Act} {w:World} (hr:Region.ready md ops listed=[E]) (h:∀x,Ge w x->wpAny P md ops Q (fuel+1) listed a x):lF P md ops Q E b (fuel+1) listed a w:=uU hr h
theorem ad4 (E b:Nat) {id:Nat} {a:Act} {w:World} (hm:P.follows .mixedOrders=true) (h:lF P .any ops Q E b ops.size (Array.replicate ops.size false) a w):(Code.region id ops true).wp P Q a w:=jT E hm h
end
section
variable {P:Program} {ops:Array Oper} {Q:Exit->Act->World->Prop} {md:Region.Mode} {E:Nat} {R:World->World->Prop} {is:List Nat} {i:Nat} {oi:Oper} {fuel:Nat} {listed:Array Bool} {a:Act} {w:World}
def TkL (_:List Nat) (p:Prop):Prop:=p
theorem tk (is:List Nat) {p:Prop} (h:TkL is p):p:=h
theorem jm {p:Prop} (h:p):TkL [] p:=h
theorem iy (h:∀K:Act->Prop,(∀a',TkL is (ig P md ops Q E Ge fuel (listed.setIfInBounds i true) a' w)->K a')->if Region.wanted oi (yielded ops a.tmps) then∃v,(∀p:Regrown,Oper.quietUpon P (Ge (Gr w p)) (Gr w p) v ((execOp a.eval oi).run P (Gr w p)))/\K (a.put oi.dst v) else K (a.put oi.dst undef)) (hi:ops[i]?=some oi:=by rfl) (hs:Region.noSelect ops=true:=by kernel_rfl) (hf:Region.free md ops listed i=true:=by kernel_rfl) (hr:(Region.ready md ops listed).contains i=true:=by kernel_rfl) (hE:(decide (ops.size<=E)||(oW md ops listed&&(WQ md ops E 20).contains i))=true:=by kernel_rfl) (hQ:∀v c a w,Q (.panic c) (a.put oi.dst v) w->Q (.panic c) a w:=by exact λ_ _ _ _ h=>h):TkL (i::is) (ig P md ops Q E Ge (fuel+1) listed a w):=
 lI i 20 Xo (Fz w) h hi hs hf hr hE hQ
theorem tkB (n:Nat) (hR:XM R) (h:∀K:Act->Prop,(∀a',TkL is (ig P md ops Q E R fuel (listed.setIfInBounds i true) a' w)->K a')->if Region.wanted oi (yielded ops a.tmps) then∃v,(∀p:But R w,Oper.quietUpon P (Ge p.x) p.x v ((execOp a.eval oi).run P p.x))/\K (a.put oi.dst v) else K (a.put oi.dst undef)) (hi:ops[i]?=some oi:=by rfl) (hs:Region.noSelect ops=true:=by kernel_rfl) (hf:Region.free md ops listed i=true:=by kernel_rfl) (hr:(Region.ready md ops listed).contains i=true:=by kernel_rfl) (hE:(decide (ops.size<=E)||(oW md ops listed&&(WQ md ops E n).contains i))=true:=by kernel_rfl) (hQ:∀v c a w,Q (.panic c) (a.put oi.dst v) w->Q (.panic c) a w:=by exact λ_ _ _ _ h=>h):TkL (i::is) (ig P md ops Q E R (fuel+1) listed a w):=
 lI i n hR (TV w) h hi hs hf hr hE hQ
theorem rg (E:Nat) (R:World->World->Prop) (n:Nat) {id:Nat} (h:ig P .any ops Q E R n (Array.replicate n false) a w) (hm:P.follows .mixedOrders=true:=by kernel_rfl) (hn:ops.size=n:=by rfl):(Code.region id ops true).wp P Q a w:=by
 subst hn;exact jT E hm h
theorem Ip (n:Nat) {id:Nat} (h:Bl P .any ops Q n (Array.replicate n false) a w) (hm:P.follows .mixedOrders=true:=by kernel_rfl) (hn:ops.size=n:=by rfl):(Code.region id ops true).wp P Q a w:=rg _ _ n h hm hn
theorem an (i:Nat) (h:oi.wp P a w (wpAny P md ops Q fuel (listed.setIfInBounds i true)) Q) (hi:ops[i]?=some oi:=by rfl) (hr:Region.ready md ops listed=[i]:=by kernel_rfl) (hw:Region.wanted oi (yielded ops a.tmps)=true:=by rfl):wpAny P md ops Q (fuel+1) listed a w:=aag i hi hr hw h
theorem ad (h:Q .normal a w) (hr:Region.ready md ops listed=[]:=by kernel_rfl):wpAny P md ops Q 0 listed a w:=⟨hr,h⟩
end
section
variable {P:Program} {ops:Array Oper} {Q:Exit->Act->World->Prop} {md:Region.Mode}
theorem yj {w x:World} {b o:Nat} {cs:List Value} (h:w.rangeAt b o cs) (hb:b < w.heap.size) (hx:Ge w x):x.rangeAt b o cs:=λj v hv=>by
 rw [Below.cell (p:=⟨b,o+j,none⟩) hx hb];exact h j v hv
theorem jc (i:Nat) {oi:Oper} {fuel:Nat} {listed:Array Bool} {a:Act} {w:World} (hi:ops[i]?=some oi) (hs:Region.noSelect ops=true) (hf:Region.free md ops listed i=true) (hr:(Region.ready md ops listed).contains i=true)
 (hQ:∀v c a w,Q (.panic c) (a.put oi.dst v) w->Q (.panic c) a w) (hw:Region.wanted oi (yielded ops a.tmps)=true)
 (ty:TypeId) (x:Operand) (ho:oi.op= .load ty x) (b o:Nat) (hx:a.eval x= .pointer (some ⟨b,o,none⟩)) (cs:List Value) (d:TypeDesc) (hc:w.rangeAt b o cs) (hb:b < w.heap.size)
 (hu:P.underlying ty=some d) (hd:d.isRow=true) (hz:(P.info? ty).map (·.size)=some cs.length)
 (h:Bl P md ops Q fuel (listed.setIfInBounds i true) (a.put oi.dst (.agg cs.toArray)) w):Bl P md ops Q (fuel+1) listed a w:=by
 refine pO 0 Xo hi (aGq hs) (hQ _) fuel listed a w (.inl (aEx _)) (aGw hi hf) (by simpa using hr) (.inl ⟨hw,λy hy=>?_⟩) h;unfold execOp;simp only[ho,hx,Instr.loadAt,Instr.sureAddr,Sem.run_bind,Sem.run_pure,Result.andThen_ok,run_loadVar_mid y b o ty cs d (yj hc hb hy) hu hd hz];exact⟨rfl,rfl⟩
end
set_option maxRecDepth 100000
abbrev muL:Go.Conc.Locks.MuLink:={lock:=77,unlock:=78,ilock:=118,iunlock:=119,lockSlow:=155,unlockSlow:=158,disable:=151,enable:=153,acquire:=154,relMerge:=156,cas32:=152,add32:=157,tMutex:=160,tIMutex:=158,tPMutex:=199,tPIMutex:=229,tPI32:=231,tUP:=233,tNoCopy:=156,tU32:=139}
theorem ajo:Go.Conc.Locks.MuLib prog muL where
 f_lock:=func77.trans Aab
 f_unlock:=func78.trans Aab
 f_ilock:=func118.trans Aab
 f_iunlock:=func119.trans Aab
 f_disable:=func151.trans Aab
 f_enable:=func153.trans Aab
 f_acquire:=func154.trans Aab
 f_relMerge:=func156.trans Aab
 f_cas32:=func152.trans Aab
 f_add32:=func157.trans Aab
 underlying_tIMutex:=Aab
 runUnderlying_tIMutex:=λ_=>by kernel_rfl
 sizeOf_tIMutex:=λ_=>by kernel_rfl
 isAgg_tIMutex:=λ_=>by kernel_rfl
 zeroValue_tIMutex:=λ_=>by kernel_rfl
 underlying_tMutex:=Aab
 runUnderlying_tMutex:=λ_=>by kernel_rfl
 sizeOf_tMutex:=λ_=>by kernel_rfl
 isAgg_tMutex:=λ_=>by kernel_rfl
 zeroValue_tMutex:=λ_=>by kernel_rfl
 underlying_tPMutex:=Aab
 runUnderlying_tPMutex:=λ_=>by kernel_rfl
 sizeOf_tPMutex:=λ_=>by kernel_rfl
 isAgg_tPMutex:=λ_=>by kernel_rfl
 zeroValue_tPMutex:=λ_=>by kernel_rfl
 underlying_tPIMutex:=Aab
 runUnderlying_tPIMutex:=λ_=>by kernel_rfl
 sizeOf_tPIMutex:=λ_=>by kernel_rfl
 isAgg_tPIMutex:=λ_=>by kernel_rfl
 zeroValue_tPIMutex:=λ_=>by kernel_rfl
 underlying_tPI32:=Aab
 runUnderlying_tPI32:=λ_=>by kernel_rfl
 sizeOf_tPI32:=λ_=>by kernel_rfl
 isAgg_tPI32:=λ_=>by kernel_rfl
 zeroValue_tPI32:=λ_=>by kernel_rfl
 underlying_tUP:=Aab
 runUnderlying_tUP:=λ_=>by kernel_rfl
 sizeOf_tUP:=λ_=>by kernel_rfl
 isAgg_tUP:=λ_=>by kernel_rfl
 zeroValue_tUP:=λ_=>by kernel_rfl
 underlying_tNoCopy:=Aab
 runUnderlying_tNoCopy:=λ_=>by kernel_rfl
 sizeOf_tNoCopy:=λ_=>by kernel_rfl
 isAgg_tNoCopy:=λ_=>by kernel_rfl
 zeroValue_tNoCopy:=λ_=>by kernel_rfl
 underlying_t21:=Aab
 runUnderlying_t21:=λ_=>by kernel_rfl
 sizeOf_t21:=λ_=>by kernel_rfl
 isAgg_t21:=λ_=>by kernel_rfl
 zeroValue_t21:=λ_=>by kernel_rfl
 room_tIMutex:=Aab
end Go.Proofs.YtfachhcijcjbpaaGreatDoor
