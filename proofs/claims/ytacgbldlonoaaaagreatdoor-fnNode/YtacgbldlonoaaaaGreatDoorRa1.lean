/- Parts. -/
import Derived.Test.YtacgbldlonoaaaaGreatDoorRaZ5
namespace Go.Proofs.YtacgbldlonoaaaaGreatDoor.Mth
def aoa:Nat→Nat→List UInt8
 |0,n=>[UInt8.ofNat n]
 |f+1,n=>if n≤127 then[UInt8.ofNat n] else UInt8.ofNat (128+n % 128)::aoa f (n / 128)
def put (n:Nat):List UInt8:=aoa 5 n
theorem abS (n:Nat) (h:n < 256):(UInt8.ofNat n).toNat=n:=by
 simp[UInt8.toNat_ofNat'];omega
theorem take_snoc (s:ByteArray) (k:Nat) (h:k < s.size):s.data.toList.take (k+1)=s.data.toList.take k++[s[k]]:=by
 rw [List.take_succ_eq_append_getElem (by simpa using h)];rfl
theorem take_all (s:ByteArray) (k:Nat) (h:¬k < s.size):s.data.toList.take k=s.data.toList:=by
 apply List.take_of_length_le
 simp only[Array.length_toList];show s.size≤k
 omega
def keyByte (c:UInt8):Bool:=decide (97≤(c.toNat:Int)∧(c.toNat:Int)≤122)||decide (48≤(c.toNat:Int)∧(c.toNat:Int)≤57)
theorem keyByte_yes (c:UInt8) (h:(97≤(c.toNat:Int)∧(c.toNat:Int)≤122)∨(48≤(c.toNat:Int)∧(c.toNat:Int)≤57)):keyByte c=true:=by
 unfold keyByte;simp;omega
theorem keyByte_no (c:UInt8) (h:(c.toNat:Int) < 48∨(57 < (c.toNat:Int)∧(c.toNat:Int) < 97)∨122 < (c.toNat:Int)):keyByte c=false:=by
 unfold keyByte;simp;omega
theorem byte_cases (c:UInt8):((97≤(c.toNat:Int)∧(c.toNat:Int)≤122)∨(48≤(c.toNat:Int)∧(c.toNat:Int)≤57))∨((c.toNat:Int) < 48∨(57 < (c.toNat:Int)∧(c.toNat:Int) < 97)∨122 < (c.toNat:Int)):=by omega
def keyOk (l:List UInt8):Bool:=l.all keyByte&&decide (1≤l.length∧l.length≤10)
theorem all_snoc (l:List UInt8) (c:UInt8):(l++[c]).all keyByte=(l.all keyByte&&keyByte c):=by simp
theorem keyOk_bad (l:List UInt8) (k:Nat) (h:(l.take k).all keyByte=false):keyOk l=false:=by
 have:l.all keyByte=false:=by
  rw [List.all_eq_false] at h ⊢;obtain⟨x,hx,hp⟩:=h;exact⟨x,List.mem_of_mem_take hx,hp⟩
 simp[keyOk,this]
theorem keyOk_all (l:List UInt8) (h:l.all keyByte=true):keyOk l=decide (1≤l.length∧l.length≤10):=by simp[keyOk,h]
theorem keyOk_len (l:List UInt8) (h:¬(1≤l.length∧l.length≤10)):keyOk l=false:=by simp[keyOk];intro _;omega
end Go.Proofs.YtacgbldlonoaaaaGreatDoor.Mth
namespace Go.Proofs.YtacgbldlonoaaaaGreatDoor
open Go.RowKit
theorem hide {p:Prop} (h:p):Hid p:=h
theorem ah {p:Prop} (h:Hid p):p:=h
theorem Mv {k:IntKind} {a b:Int} (h:a=b):Ending.returned (.int k a)= .returned (.int k b):=by rw [h]
theorem aD {a b:Bool} (h:a=b):Ending.returned (.bool a)= .returned (.bool b):=by rw [h]
theorem gU (s:ByteArray):s.data.toList.length=s.size:=by simp
theorem xC (s:ByteArray) (h:0 < s.size):s.toList.isEmpty=false:=by
 rw [ByteArray.toList_eq,List.isEmpty_eq_false_iff,←List.length_pos_iff,gU];exact h
theorem eq_empty (s:ByteArray) (h:s.size=0):s=ByteArray.empty:=by
 apply ByteArray.ext;apply Array.eq_empty_of_size_eq_zero;exact h
theorem Gp {W w1:World} (hb:Below W.heap.size W w1):(∀b o,b < W.heap.size→w1.cell? ⟨b,o,none⟩=W.cell? ⟨b,o,none⟩)∧(∀b o,b < W.heap.size→w1.frozen? ⟨b,o,none⟩=W.frozen? ⟨b,o,none⟩):=
 ⟨fun b o h=>hb.cell (p:=⟨b,o,none⟩) h,fun b o h=>hb.frozen (p:=⟨b,o,none⟩) h⟩
end Go.Proofs.YtacgbldlonoaaaaGreatDoor
namespace Go.Proofs.YtacgbldlonoaaaaGreatDoor
open Go.RowKit
abbrev Ge (w w':World):Prop:=Below w.heap.size w w'
theorem Ge.trans {a b c:World} (h:Ge a b) (h':Ge b c):Ge a c:=Below.trans h (Below.mono h' (Below.size h))
abbrev Gr (w:World) (p:Regrown):World:=Sort.grow (redrawn w p.d) p.os
section
variable {P:Program} {ops:Array Oper} {Q:Exit→Act→World→Prop} {md:Region.Mode}
def iX (P:Program) (md:Region.Mode) (ops:Array Oper) (Q:Exit→Act→World→Prop):Nat→Array Bool→Act→World→Prop
 |0,listed,a,w=>Region.ready md ops listed=[]∧∀x,Ge w x→Q .normal a x
 |fuel+1,listed,a,w=>∀x,Ge w x→(Region.ready md ops listed=[]→Q .normal a x)∧∀i∈Region.ready md ops listed,wpOp P ops Q i (fun a' y=>Ge x y∧iX P md ops Q fuel (listed.setIfInBounds i true) a' y) a x
theorem AO {fuel:Nat} {listed:Array Bool} {a:Act} {w x:World} (hx:Ge w x) (h:iX P md ops Q fuel listed a w):iX P md ops Q fuel listed a x:=by
 exact aa5
theorem wB:∀(fuel:Nat) (listed:Array Bool) (a:Act) (w:World),iX P md ops Q fuel listed a w→wpAny P md ops Q fuel listed a w
 |0,_,_,w,h=>⟨h.1,h.2 w (Below.refl _ _)⟩
 |fuel+1,_,_,w,h=>⟨(h w (Below.refl _ _)).1,fun i hi=>wpOp_mono (fun a' y hy=>wB fuel _ a' y hy.2) ((h w (Below.refl _ _)).2 i hi)⟩
def nu (P:Program) (ops:Array Oper) (o:Oper) (v:Value) (a:Act) (w:World):Prop:=
 (Region.wanted o (yielded ops a.tmps)=true∧∀x,Ge w x→Oper.quietUpon P (Ge x) x v ((execOp a.eval o).run P x))∨(Region.wanted o (yielded ops a.tmps)=false∧v=undef)
theorem nu.wpOp {i:Nat} {o:Oper} {v:Value} {a:Act} {w x:World} (hi:ops[i]?=some o) (hy:nu P ops o v a w) (hx:Ge w x) {K:Act→World→Prop} (h:∀y,Ge x y→K (a.put o.dst v) y):wpOp P ops Q i K a x:=by
 unfold Go.wpOp;simp only[hi];rcases hy with⟨hw,hv⟩|⟨hw,rfl⟩
 ·rw [if_pos hw];left
  have h1:=hv x hx;unfold Oper.wp;generalize (execOp a.eval o).run P x=r at *;cases r with
  |halt e y=>simp only[Oper.quietUpon] at h1
  |ok n y=>
   cases n<;>simp only[Oper.quietUpon] at h1<;>simp only[Oper.upon]
   case value u=>obtain⟨rfl,rfl⟩:=h1;exact h _ (Below.refl _ _)
   case skip=>obtain⟨rfl,rfl⟩:=h1;exact h _ (Below.refl _ _)
   case enter f args=>
    obtain⟨rfl,hc⟩:=h1;exact hc.mono fun e z ⟨he,hz⟩=>by subst he;exact h z hz
 ·rw [if_neg (by rw [hw];simp)];exact h _ (Below.refl _ _)
theorem O4 {j:Nat} {oi oj:Oper} {v:Value} (hj:ops[j]?=some oj) (hap:oi.apart ops oj=true) (hsi:∀cs b,oi.op≠ .select cs b) (hsj:∀cs b,oj.op≠ .select cs b)
 (hQ:∀c a w,Q (.panic c) (a.put oi.dst v) w→Q (.panic c) a w) {K:Act→World→Prop} {a:Act} {x:World} (h:wpOp P ops Q j K (a.put oi.dst v) x):
 wpOp P ops Q j (fun a' y=>(execOp a'.eval oi=execOp a.eval oi∧Region.wanted oi (yielded ops a'.tmps)=Region.wanted oi (yielded ops a.tmps))∧K (a'.put oi.dst v) y) a x:=by
 obtain⟨g1,g2,g3⟩:=Oper.apart_spec hap;have same:∀(b:Act) u,execOp (b.put oj.dst u).eval oi=execOp b.eval oi∧Region.wanted oi (yielded ops (b.put oj.dst u).tmps)=Region.wanted oi (yielded ops b.tmps):=fun b u=>⟨execOp_put oi hsi b oj.dst u g3,wanted_put oi b oj.dst u g3⟩
 unfold wpOp at *;simp only[hj] at *;rw [wanted_put oj a oi.dst v g1] at h;by_cases hw:Region.wanted oj (yielded ops a.tmps)=true
 ·rw [if_pos hw] at h ⊢;rcases h with h|⟨h,hl⟩
  ·left
   unfold Oper.wp at *;rw [execOp_put oj hsj a oi.dst v g1] at h;generalize (execOp a.eval oj).run P x=r at *;cases r with
   |halt e y=>cases e<;>simp only[Oper.upon] at h ⊢;exact hQ _ _ _ h
   |ok n y=>
    cases n<;>simp only[Oper.upon] at h ⊢
    case value u=>exact⟨same a u,by rw [←Act.put_comm a v u g2];exact h⟩
    case skip=>exact⟨same a _,by rw [←Act.put_comm a v undef g2];exact h⟩
    case defer d=>
     refine⟨same {a with defers:=d::a.defers} _,?_⟩;rw [←Act.put_comm _ v undef g2,←Act.put_defers];exact h
    case enter f args=>
     refine Calls.mono h fun e z he=>?_
     cases e with
     |returned u=>exact⟨same a u,by rw [←Act.put_comm a v u g2];exact he⟩
     |panicked c=>exact hQ _ _ _ he
     |outgrown=>exact he
    case row r args=>exact Rows.mono h fun u z he=>⟨same a u,by rw [←Act.put_comm a v u g2];exact he⟩
  ·right
   refine⟨?_,hl⟩;unfold Oper.asks at *;rw [execOp_put oj hsj a oi.dst v g1] at h;exact h
 ·rw [if_neg hw] at h ⊢;exact⟨same a _,by rw [←Act.put_comm a v undef g2];exact h⟩
theorem yc {i:Nat} {oi:Oper} {v:Value} (hi:ops[i]?=some oi) (hsel:∀(j:Nat) (o:Oper) cs b,ops[j]?=some o→o.op≠ .select cs b) (hQ:∀c a w,Q (.panic c) (a.put oi.dst v) w→Q (.panic c) a w):
 ∀(fuel:Nat) (listed:Array Bool) (a:Act) (w:World),
  (∀j oj,ops[j]?=some oj→j≠i→listed.getD j true=false→(∀e∈oj.after,Region.binds md e=true→e.on≠i)→oi.apart ops oj=true)→
  i∈Region.ready md ops listed→nu P ops oi v a w→iX P md ops Q fuel (listed.setIfInBounds i true) (a.put oi.dst v) w→iX P md ops Q (fuel+1) listed a w:=by
 intro fuel;induction fuel with
 |zero=>
  intro listed a w _ hr hy H x hx
  refine⟨fun h=>(by rw [h] at hr;cases hr),fun j hj=>?_⟩
  by_cases hji:j=i
  ·exact ZI
  ·exact Vm
 |succ fuel ih=>
  intro listed a w hfree hr hy H x hx
  refine⟨fun h=>(by rw [h] at hr;cases hr),fun j hj=>?_⟩
  by_cases hji:j=i
  ·exact ZI
  ·have h1:=(H x hx).2 j (ready_mono hj hji);open ad7 in exact aaJ
theorem uD (i:Nat) {oi:Oper} {fuel:Nat} {listed:Array Bool} {a:Act} {w:World} (hi:ops[i]?=some oi) (hs:Region.noSelect ops=true) (hf:Region.free md ops listed i=true) (hr:(Region.ready md ops listed).contains i=true)
 (hQ:∀v c a w,Q (.panic c) (a.put oi.dst v) w→Q (.panic c) a w)
 (h:∀K:Act→Prop,(∀a',iX P md ops Q fuel (listed.setIfInBounds i true) a' w→K a')→if Region.wanted oi (yielded ops a.tmps) then∃v,(∀p:Regrown,Oper.quietUpon P (Ge (Gr w p)) (Gr w p) v ((execOp a.eval oi).run P (Gr w p)))∧K (a.put oi.dst v) else K (a.put oi.dst undef)):
 iX P md ops Q (fuel+1) listed a w:=by
 have h':=h _ fun _ h=>h
 by_cases hw:Region.wanted oi (yielded ops a.tmps)=true
 ·rw [if_pos hw] at h';obtain⟨v,hv,hk⟩:=h';refine yc hi (Region.noSelect_spec hs) (hQ v) fuel listed a w (Region.free_spec hi hf) (by simpa using hr) (.inl ⟨hw,fun x hx=>?_⟩) hk;exact QW
 ·rw [if_neg hw] at h';exact yc hi (Region.noSelect_spec hs) (hQ undef) fuel listed a w (Region.free_spec hi hf) (by simpa using hr) (.inr ⟨by simpa using hw,rfl⟩) h'
theorem O3 (i:Nat) {oi:Oper} {fuel:Nat} {listed:Array Bool} {a:Act} {w:World} (hi:ops[i]?=some oi) (hr:Region.ready md ops listed=[i]) (hw:Region.wanted oi (yielded ops a.tmps)=true)
 (h:∀x,Ge w x→oi.wp P a x (fun a' y=>Ge x y∧iX P md ops Q fuel (listed.setIfInBounds i true) a' y) Q):iX P md ops Q (fuel+1) listed a w:=by
 intro x hx;exact anz
theorem iC {listed:Array Bool} {a:Act} {w:World} (hr:Region.ready md ops listed=[]) (h:∀x,Ge w x→Q .normal a x):iX P md ops Q 0 listed a w:=⟨hr,h⟩
theorem fK {id:Nat} {a:Act} {w:World} (hm:P.follows .mixedOrders=true) (h:iX P .any ops Q ops.size (Array.replicate ops.size false) a w):(Code.region id ops true).wp P Q a w:=
 wp_region_any hm (wB _ _ _ _ (AO (w:=w) (x:={w with drawn:=w.drawn+1}) ⟨rfl,rfl,rfl,Nat.le_refl _,fun _ _=>rfl⟩ h))
end
end Go.Proofs.YtacgbldlonoaaaaGreatDoor
namespace Go.Proofs.YtacgbldlonoaaaaGreatDoor
open Go.RowKit
section
variable {P:Program} {ops:Array Oper} {Q:Exit→Act→World→Prop} {md:Region.Mode} {E:Nat}
def tH (md:Region.Mode) (ops:Array Oper) (j:Nat):List Nat:=match ops[j]? with
 |some o=>(o.after.toList.filter (fun e=>Region.binds md e)).map (fun e=>e.on)
 |none=>[]
def ap7 (md:Region.Mode) (ops:Array Oper) (S:List Nat):List Nat:=(S++S.flatMap (tH md ops)).eraseDups
def Ju (md:Region.Mode) (ops:Array Oper) (E:Nat):Nat→List Nat
 |0=>tH md ops E
 |n+1=>ap7 md ops (Ju md ops E n)
def mY (md:Region.Mode) (ops:Array Oper) (L:Array Bool):Prop:=∀j oj,ops[j]?=some oj→L.getD j false=true→∀e∈oj.after,Region.binds md e=true→L.getD e.on false=true
def nA (md:Region.Mode) (ops:Array Oper) (L:Array Bool):Bool:=(List.range ops.size).all fun j=> !(L.getD j false)||(tH md ops j).all (fun k=>L.getD k false)
theorem tO {j:Nat} {oj:Oper} (hj:ops[j]?=some oj) {k:Nat}:k∈tH md ops j↔∃e∈oj.after,Region.binds md e=true∧e.on=k:=by
 unfold tH;rw [hj];simp only[List.mem_map,List.mem_filter,Array.mem_toList_iff];constructor
 ·rintro⟨e,⟨h1,h2⟩,h3⟩;exact⟨e,h1,h2,h3⟩
 ·rintro⟨e,h1,h2,h3⟩;exact⟨e,⟨h1,h2⟩,h3⟩
theorem iY {L:Array Bool} (h:nA md ops L=true):mY md ops L:=by
 intro j oj hj hl e he hb;unfold nA at h;rw [List.all_eq_true] at h
 have hjs:j < ops.size:=by
  rcases Nat.lt_or_ge j ops.size with h'|h'
  ·exact h'
  ·rw [Array.getElem?_eq_none h'] at hj;cases hj
 have h1:=h j (List.mem_range.2 hjs);rw [hl] at h1;simp only[Bool.not_true,Bool.false_or,List.all_eq_true] at h1;exact h1 e.on ((tO hj).2 ⟨e,he,hb,rfl⟩)
theorem zi {L:Array Bool} (hc:mY md ops L) (hE:E∈Region.ready md ops L):∀n,∀k∈Ju md ops E n,L.getD k false=true:=by
 obtain⟨_,o,ho,hall⟩:=mem_ready.1 hE;intro n;induction n with
 |zero=>
  intro k hk
  obtain⟨e,he,hb,rfl⟩:=(tO ho).1 hk
  exact hall e he hb
 |succ n ih=>
  intro k hk
  have hk':k∈(Ju md ops E n++(Ju md ops E n).flatMap (tH md ops)).eraseDups:=hk
  rw [List.mem_eraseDups,List.mem_append,List.mem_flatMap] at hk'
  rcases hk' with h|⟨d,hd,hkd⟩
  ·exact ih k h
  ·cases hod:ops[d]? with
   |none=>unfold tH at hkd;rw [hod] at hkd;cases hkd
   |some od=>
    obtain⟨e,he,hb,rfl⟩:=(tO hod).1 hkd
    exact hc d od hod (ih d hd) e he hb
theorem zo {L:Array Bool} {j:Nat} (hc:mY md ops L) (hj:j∈Region.ready md ops L):mY md ops (L.setIfInBounds j true):=by
 obtain⟨_,o,ho,hall⟩:=mem_ready.1 hj;intro k ok hk hl e he hb;by_cases hjk:j=k
 ·subst hjk;obtain rfl:=Option.some.inj (ho.symm.trans hk);exact getD_set_true (hall e he hb)
 ·rw [getD_set_ne false hjk] at hl;exact getD_set_true (hc k ok hk hl e he hb)
def dS (P:Program) (md:Region.Mode) (ops:Array Oper) (Q:Exit→Act→World→Prop) (E:Nat):Nat→Array Bool→Act→World→Prop
 |0,listed,a,w=>Region.ready md ops listed=[]∧∀x,Ge w x→Q .normal a x
 |fuel+1,listed,a,w=>(Region.ready md ops listed=[E]∧∀x,Ge w x→wpAny P md ops Q (fuel+1) listed a x)∨
  ∀x,Ge w x→(Region.ready md ops listed=[]→Q .normal a x)∧∀i∈Region.ready md ops listed,wpOp P ops Q i (fun a' y=>Ge x y∧dS P md ops Q E fuel (listed.setIfInBounds i true) a' y) a x
theorem ru {fuel:Nat} {listed:Array Bool} {a:Act} {w x:World} (hx:Ge w x) (h:dS P md ops Q E fuel listed a w):dS P md ops Q E fuel listed a x:=by
 cases fuel with
 |zero=>exact⟨h.1,fun y hy=>h.2 y (Ge.trans hx hy)⟩
 |succ fuel=>
  rcases h with⟨h1,h2⟩|h
  ·exact .inl ⟨h1,fun y hy=>h2 y (Ge.trans hx hy)⟩
  ·exact .inr fun y hy=>h y (Ge.trans hx hy)
theorem nP:∀(fuel:Nat) (listed:Array Bool) (a:Act) (w:World),dS P md ops Q E fuel listed a w→wpAny P md ops Q fuel listed a w
 |0,_,_,w,h=>⟨h.1,h.2 w (Below.refl _ _)⟩
 |_+1,_,_,w,.inl h=>h.2 w (Below.refl _ _)
 |fuel+1,_,_,w,.inr h=>⟨(h w (Below.refl _ _)).1,fun i hi=>wpOp_mono (fun a' y hy=>nP fuel _ a' y hy.2) ((h w (Below.refl _ _)).2 i hi)⟩
theorem wD {i:Nat} {oi:Oper} {v:Value} (n:Nat) (hi:ops[i]?=some oi) (hE:i∈Ju md ops E n) (hsel:∀(j:Nat) (o:Oper) cs b,ops[j]?=some o→o.op≠ .select cs b) (hQ:∀c a w,Q (.panic c) (a.put oi.dst v) w→Q (.panic c) a w):
 ∀(fuel:Nat) (listed:Array Bool) (a:Act) (w:World),mY md ops listed→
  (∀j oj,ops[j]?=some oj→j≠i→listed.getD j true=false→(∀e∈oj.after,Region.binds md e=true→e.on≠i)→oi.apart ops oj=true)→
  i∈Region.ready md ops listed→nu P ops oi v a w→dS P md ops Q E fuel (listed.setIfInBounds i true) (a.put oi.dst v) w→dS P md ops Q E (fuel+1) listed a w:=by
 intro fuel;induction fuel with
 |zero=>
  intro listed a w _ _ hr hy H
  refine .inr fun x hx=>⟨fun h=>(by rw [h] at hr;cases hr),fun j hj=>?_⟩
  by_cases hji:j=i
  ·exact ZE
  ·exact Vm
 |succ fuel ih=>
  intro listed a w hcl hfree hr hy H
  refine .inr fun x hx=>⟨fun h=>(by rw [h] at hr;cases hr),fun j hj=>?_⟩
  by_cases hji:j=i
  ·exact ZE
  ·rcases H with⟨h1,_⟩|H
   ·exfalso
    have h2:=ready_mono hj hji;rw [h1] at h2;obtain rfl:j=E:=by simpa using h2
    have h3:=zi hcl hj n i hE;have h4:=(mem_ready.1 hr).1;rcases Nat.lt_or_ge i listed.size with h'|h'
    ·simp[h'] at h3 h4;rw [h4] at h3;cases h3
    ·simp[Array.getElem?_eq_none h'] at h3
   ·have h1:=(H x hx).2 j (ready_mono hj hji);exact amQ
theorem rz (i n:Nat) {oi:Oper} {fuel:Nat} {listed:Array Bool} {a:Act} {w:World} (hi:ops[i]?=some oi) (hs:Region.noSelect ops=true) (hf:Region.free md ops listed i=true) (hr:(Region.ready md ops listed).contains i=true)
 (hcl:nA md ops listed=true) (hE:(Ju md ops E n).contains i=true)
 (hQ:∀v c a w,Q (.panic c) (a.put oi.dst v) w→Q (.panic c) a w)
 (h:∀K:Act→Prop,(∀a',dS P md ops Q E fuel (listed.setIfInBounds i true) a' w→K a')→if Region.wanted oi (yielded ops a.tmps) then∃v,(∀p:Regrown,Oper.quietUpon P (Ge (Gr w p)) (Gr w p) v ((execOp a.eval oi).run P (Gr w p)))∧K (a.put oi.dst v) else K (a.put oi.dst undef)):
 dS P md ops Q E (fuel+1) listed a w:=by
 have h':=h _ fun _ h=>h
 have hE':i∈Ju md ops E n:=by simpa using hE
 by_cases hw:Region.wanted oi (yielded ops a.tmps)=true
 ·rw [if_pos hw] at h';obtain⟨v,hv,hk⟩:=h';refine wD n hi hE' (Region.noSelect_spec hs) (hQ v) fuel listed a w (iY hcl) (Region.free_spec hi hf) (by simpa using hr) (.inl ⟨hw,fun x hx=>?_⟩) hk;exact QW
 ·rw [if_neg hw] at h';exact wD n hi hE' (Region.noSelect_spec hs) (hQ undef) fuel listed a w (iY hcl) (Region.free_spec hi hf) (by simpa using hr) (.inr ⟨by simpa using hw,rfl⟩) h'
theorem cZ (i:Nat) {oi:Oper} {fuel:Nat} {listed:Array Bool} {a:Act} {w:World} (hi:ops[i]?=some oi) (hr:Region.ready md ops listed=[i]) (hw:Region.wanted oi (yielded ops a.tmps)=true)
 (h:∀x,Ge w x→oi.wp P a x (fun a' y=>Ge x y∧dS P md ops Q E fuel (listed.setIfInBounds i true) a' y) Q):dS P md ops Q E (fuel+1) listed a w:=by
 refine .inr fun x hx=>?_
 exact anz
theorem uz (i j:Nat) {oi oj:Oper} {fuel:Nat} {listed:Array Bool} {a:Act} {w:World} (hi:ops[i]?=some oi) (hj:ops[j]?=some oj) (hr:Region.ready md ops listed=[i,j]) (hwi:Region.wanted oi (yielded ops a.tmps)=true) (hwj:Region.wanted oj (yielded ops a.tmps)=true)
 (h1:∀x,Ge w x→oi.wp P a x (fun a' y=>Ge x y∧dS P md ops Q E fuel (listed.setIfInBounds i true) a' y) Q)
 (h2:∀x,Ge w x→oj.wp P a x (fun a' y=>Ge x y∧dS P md ops Q E fuel (listed.setIfInBounds j true) a' y) Q):dS P md ops Q E (fuel+1) listed a w:=by
 refine .inr fun x hx=>?_
 rw [hr];refine⟨fun h=>(by cases h),fun k hk=>?_⟩;have hk':k=i∨k=j:=by simpa using hk
 rcases hk' with rfl|rfl
 ·exact QM
 ·exact QN
theorem aV {fuel:Nat} {listed:Array Bool} {a:Act} {w:World} (hr:Region.ready md ops listed=[E]) (h:∀x,Ge w x→wpAny P md ops Q (fuel+1) listed a x):dS P md ops Q E (fuel+1) listed a w:= .inl ⟨hr,h⟩
theorem aG (i:Nat) {oi:Oper} {fuel:Nat} {listed:Array Bool} {a:Act} {w:World} (hi:ops[i]?=some oi) (hr:Region.ready md ops listed=[i]) (hw:Region.wanted oi (yielded ops a.tmps)=true)
 (h:oi.wp P a w (wpAny P md ops Q fuel (listed.setIfInBounds i true)) Q):wpAny P md ops Q (fuel+1) listed a w:=by
 refine⟨fun h=>(by rw [hr] at h;cases h),fun j hj=>?_⟩;rw [hr] at hj;obtain rfl:j=i:=by simpa using hj
 unfold wpOp;simp only[hi];rw [if_pos hw];exact .inl h
theorem wpAny_done {listed:Array Bool} {a:Act} {w:World} (hr:Region.ready md ops listed=[]) (h:Q .normal a w):wpAny P md ops Q 0 listed a w:=⟨hr,h⟩
theorem ab5 (i:Nat) {oi:Oper} {fuel:Nat} {listed:Array Bool} {a:Act} {w:World} (hi:ops[i]?=some oi) (hs:Region.noSelect ops=true) (hf:Region.free md ops listed i=true) (hr:(Region.ready md ops listed).contains i=true)
 (hQ:∀v c a w,Q (.panic c) (a.put oi.dst v) w→Q (.panic c) a w)
 (h:∀K:Act→Prop,(∀a',wpAny P md ops Q fuel (listed.setIfInBounds i true) a' w→K a')→if Region.wanted oi (yielded ops a.tmps) then∃v,(∀x:World,(execOp a.eval oi).run P x= .ok (.value v) x)∧K (a.put oi.dst v) else K (a.put oi.dst undef)):
 wpAny P md ops Q (fuel+1) listed a w:=by
 have h':=h _ fun _ h=>h
 by_cases hw:Region.wanted oi (yielded ops a.tmps)=true
 ·rw [if_pos hw] at h';obtain⟨v,hv,hk⟩:=h';exact wpAny_take hi hs hf hr (hQ v) (.inl ⟨hw,hv⟩) hk
 ·rw [if_neg hw] at h';exact wpAny_take hi hs hf hr (hQ undef) (.inr ⟨by simpa using hw,rfl⟩) h'
def qY (P:Program) (md:Region.Mode) (ops:Array Oper) (Q:Exit→Act→World→Prop) (fuel:Nat) (listed:Array Bool) (a:Act) (w:World):Prop:=∀x,Ge w x→wpAny P md ops Q fuel listed a x
theorem lD (i:Nat) {oi:Oper} {fuel:Nat} {listed:Array Bool} {a:Act} {w:World} (hi:ops[i]?=some oi) (hs:Region.noSelect ops=true) (hf:Region.free md ops listed i=true) (hr:(Region.ready md ops listed).contains i=true)
 (hQ:∀v c a w,Q (.panic c) (a.put oi.dst v) w→Q (.panic c) a w)
 (h:∀K:Act→Prop,(∀a',qY P md ops Q fuel (listed.setIfInBounds i true) a' w→K a')→if Region.wanted oi (yielded ops a.tmps) then∃v,(∀x:World,(execOp a.eval oi).run P x= .ok (.value v) x)∧K (a.put oi.dst v) else K (a.put oi.dst undef)):
 qY P md ops Q (fuel+1) listed a w:=by
 have h':=h _ fun _ h=>h
 intro x hx;by_cases hw:Region.wanted oi (yielded ops a.tmps)=true
 ·rw [if_pos hw] at h';obtain⟨v,hv,hk⟩:=h';exact wpAny_take hi hs hf hr (hQ v) (.inl ⟨hw,hv⟩) (hk x hx)
 ·rw [if_neg hw] at h';exact wpAny_take hi hs hf hr (hQ undef) (.inr ⟨by simpa using hw,rfl⟩) (h' x hx)
theorem qZ (E:Nat) {fuel:Nat} {listed:Array Bool} {a:Act} {w:World} (h:dS P md ops Q E fuel listed a w):qY P md ops Q fuel listed a w:=fun _ hx=>nP _ _ _ _ (ru hx h)
theorem jU {id:Nat} {a:Act} {w:World} (hm:P.follows .mixedOrders=true) (h:qY P .any ops Q ops.size (Array.replicate ops.size false) a w):(Code.region id ops true).wp P Q a w:=
 wp_region_any hm (h {w with drawn:=w.drawn+1} ⟨rfl,rfl,rfl,Nat.le_refl _,fun _ _=>rfl⟩)
theorem bn (E:Nat) {id:Nat} {a:Act} {w:World} (hm:P.follows .mixedOrders=true) (h:dS P .any ops Q E ops.size (Array.replicate ops.size false) a w):(Code.region id ops true).wp P Q a w:=
 wp_region_any hm (nP _ _ _ _ (ru (w:=w) (x:={w with drawn:=w.drawn+1}) ⟨rfl,rfl,rfl,Nat.le_refl _,fun _ _=>rfl⟩ h))
end
end Go.Proofs.YtacgbldlonoaaaaGreatDoor
namespace Go.Proofs.YtacgbldlonoaaaaGreatDoor
open Go.RowKit
section
variable {P:Program} {ops:Array Oper} {Q:Exit→Act→World→Prop} {md:Region.Mode} {E:Nat}
def iK (P:Program) (md:Region.Mode) (ops:Array Oper) (Q:Exit→Act→World→Prop) (E:Nat):Nat→Array Bool→Act→World→Prop
 |0,listed,a,w=>Region.ready md ops listed=[]∧∀x,Ge w x→Q .normal a x
 |fuel+1,listed,a,w=>∀x,Ge w x→(Region.ready md ops listed=[]→Q .normal a x)∧∀i∈Region.ready md ops listed,
  (i=E→wpOp P ops Q i (fun a' y=>wpAny P md ops Q fuel (listed.setIfInBounds i true) a' y) a x)∧
  (i≠E→wpOp P ops Q i (fun a' y=>Ge x y∧iK P md ops Q E fuel (listed.setIfInBounds i true) a' y) a x)
theorem xZ {fuel:Nat} {listed:Array Bool} {a:Act} {w x:World} (hx:Ge w x) (h:iK P md ops Q E fuel listed a w):iK P md ops Q E fuel listed a x:=by
 exact aa5
theorem sV:∀(fuel:Nat) (listed:Array Bool) (a:Act) (w:World),iK P md ops Q E fuel listed a w→wpAny P md ops Q fuel listed a w
 |0,_,_,w,h=>⟨h.1,h.2 w (Below.refl _ _)⟩
 |fuel+1,_,_,w,h=>⟨(h w (Below.refl _ _)).1,fun i hi=>by
  by_cases hE:i=E
  ·exact((h w (Below.refl _ _)).2 i hi).1 hE
  ·exact wpOp_mono (fun a' y hy=>sV fuel _ a' y hy.2) (((h w (Below.refl _ _)).2 i hi).2 hE)⟩
theorem wE {i:Nat} {oi:Oper} {v:Value} (n:Nat) (hi:ops[i]?=some oi) (hE:i∈Ju md ops E n) (hsel:∀(j:Nat) (o:Oper) cs b,ops[j]?=some o→o.op≠ .select cs b) (hQ:∀c a w,Q (.panic c) (a.put oi.dst v) w→Q (.panic c) a w):
 ∀(fuel:Nat) (listed:Array Bool) (a:Act) (w:World),mY md ops listed→
  (∀j oj,ops[j]?=some oj→j≠i→listed.getD j true=false→(∀e∈oj.after,Region.binds md e=true→e.on≠i)→oi.apart ops oj=true)→
  i∈Region.ready md ops listed→nu P ops oi v a w→iK P md ops Q E fuel (listed.setIfInBounds i true) (a.put oi.dst v) w→iK P md ops Q E (fuel+1) listed a w:=by
 open aij in exact Xw
theorem Jr (i n:Nat) {oi:Oper} {fuel:Nat} {listed:Array Bool} {a:Act} {w:World} (hi:ops[i]?=some oi) (hs:Region.noSelect ops=true) (hf:Region.free md ops listed i=true) (hr:(Region.ready md ops listed).contains i=true)
 (hcl:nA md ops listed=true) (hE:(Ju md ops E n).contains i=true)
 (hQ:∀v c a w,Q (.panic c) (a.put oi.dst v) w→Q (.panic c) a w)
 (h:∀K:Act→Prop,(∀a',iK P md ops Q E fuel (listed.setIfInBounds i true) a' w→K a')→if Region.wanted oi (yielded ops a.tmps) then∃v,(∀p:Regrown,Oper.quietUpon P (Ge (Gr w p)) (Gr w p) v ((execOp a.eval oi).run P (Gr w p)))∧K (a.put oi.dst v) else K (a.put oi.dst undef)):
 iK P md ops Q E (fuel+1) listed a w:=by
 have h':=h _ fun _ h=>h
 have hE':i∈Ju md ops E n:=by simpa using hE
 by_cases hw:Region.wanted oi (yielded ops a.tmps)=true
 ·rw [if_pos hw] at h';obtain⟨v,hv,hk⟩:=h';refine wE n hi hE' (Region.noSelect_spec hs) (hQ v) fuel listed a w (iY hcl) (Region.free_spec hi hf) (by simpa using hr) (.inl ⟨hw,fun x hx=>?_⟩) hk;exact QW
 ·rw [if_neg hw] at h';exact wE n hi hE' (Region.noSelect_spec hs) (hQ undef) fuel listed a w (iY hcl) (Region.free_spec hi hf) (by simpa using hr) (.inr ⟨by simpa using hw,rfl⟩) h'
theorem KW (i:Nat) {oi:Oper} {fuel:Nat} {listed:Array Bool} {a:Act} {w:World} (hi:ops[i]?=some oi) (hr:Region.ready md ops listed=[i]) (hw:Region.wanted oi (yielded ops a.tmps)=true) (hiE:i≠E)
 (h:∀x,Ge w x→oi.wp P a x (fun a' y=>Ge x y∧iK P md ops Q E fuel (listed.setIfInBounds i true) a' y) Q):iK P md ops Q E (fuel+1) listed a w:=by
 exact ane
theorem iB (i:Nat) {oi oj:Oper} {fuel:Nat} {listed:Array Bool} {a:Act} {w:World} (hi:ops[i]?=some oi) (hj:ops[E]?=some oj) (hr:Region.ready md ops listed=[i,E]) (hwi:Region.wanted oi (yielded ops a.tmps)=true) (hwj:Region.wanted oj (yielded ops a.tmps)=true) (hiE:i≠E)
 (h1:∀x,Ge w x→oi.wp P a x (fun a' y=>Ge x y∧iK P md ops Q E fuel (listed.setIfInBounds i true) a' y) Q)
 (h2:∀x,Ge w x→oj.wp P a x (wpAny P md ops Q fuel (listed.setIfInBounds E true)) Q):iK P md ops Q E (fuel+1) listed a w:=by
 intro x hx;rw [hr];refine⟨fun h=>(by cases h),fun k hk=>?_⟩;have hk':k=i∨k=E:=by simpa using hk
 rcases hk' with rfl|rfl
 ·refine⟨fun e=>absurd e hiE,fun _=>?_⟩;exact QM
 ·refine⟨fun _=>?_,fun e=>absurd rfl e⟩;exact QN
theorem wF {fuel:Nat} {listed:Array Bool} {a:Act} {w:World} (hr:Region.ready md ops listed=[E]) (h:∀x,Ge w x→wpAny P md ops Q (fuel+1) listed a x):iK P md ops Q E (fuel+1) listed a w:=fun x hx=>⟨(h x hx).1,fun i hi=>⟨fun _=>(h x hx).2 i hi,fun hne=>absurd (by rw [hr] at hi;simpa using hi) hne⟩⟩
theorem rA (E:Nat) {id:Nat} {a:Act} {w:World} (hm:P.follows .mixedOrders=true) (h:iK P .any ops Q E ops.size (Array.replicate ops.size false) a w):(Code.region id ops true).wp P Q a w:=
 wp_region_any hm (sV _ _ _ _ (xZ (w:=w) (x:={w with drawn:=w.drawn+1}) ⟨rfl,rfl,rfl,Nat.le_refl _,fun _ _=>rfl⟩ h))
end
end Go.Proofs.YtacgbldlonoaaaaGreatDoor
namespace Go.Proofs.YtacgbldlonoaaaaGreatDoor
open Go.RowKit
section
variable {P:Program} {ops:Array Oper} {Q:Exit→Act→World→Prop} {md:Region.Mode} {E b:Nat}
def iw (P:Program) (md:Region.Mode) (ops:Array Oper) (Q:Exit→Act→World→Prop) (E b:Nat):Nat→Array Bool→Act→World→Prop
 |0,listed,a,w=>Region.ready md ops listed=[]∧∀x,Ge w x→Q .normal a x
 |fuel+1,listed,a,w=>∀x,Ge w x→(Region.ready md ops listed=[]→Q .normal a x)∧∀i∈Region.ready md ops listed,
  (i=E→wpOp P ops Q i (fun a' y=>wpAny P md ops Q fuel (listed.setIfInBounds i true) a' y) a x)∧
  (i≠E→wpOp P ops Q i (fun a' y=>Below b x y∧iw P md ops Q E b fuel (listed.setIfInBounds i true) a' y) a x)
theorem xY {fuel:Nat} {listed:Array Bool} {a:Act} {w x:World} (hx:Ge w x) (h:iw P md ops Q E b fuel listed a w):iw P md ops Q E b fuel listed a x:=by
 exact aa5
theorem sU:∀(fuel:Nat) (listed:Array Bool) (a:Act) (w:World),iw P md ops Q E b fuel listed a w→wpAny P md ops Q fuel listed a w
 |0,_,_,w,h=>⟨h.1,h.2 w (Below.refl _ _)⟩
 |fuel+1,_,_,w,h=>⟨(h w (Below.refl _ _)).1,fun i hi=>by
  by_cases hE:i=E
  ·exact((h w (Below.refl _ _)).2 i hi).1 hE
  ·exact wpOp_mono (fun a' y hy=>sU fuel _ a' y hy.2) (((h w (Below.refl _ _)).2 i hi).2 hE)⟩
def yM (P:Program) (ops:Array Oper) (b:Nat) (o:Oper) (v:Value) (a:Act) (w:World):Prop:=
 (Region.wanted o (yielded ops a.tmps)=true∧∀x,Below b w x→Oper.quietUpon P (Ge x) x v ((execOp a.eval o).run P x))∨(Region.wanted o (yielded ops a.tmps)=false∧v=undef)
theorem yM.toG {o:Oper} {v:Value} {a:Act} {w:World} (h:yM P ops b o v a w) (hb:b≤w.heap.size):nu P ops o v a w:=h.imp (fun⟨p,q⟩=>⟨p,fun x hx=>q x (hx.mono hb)⟩) id
theorem wC {i:Nat} {oi:Oper} {v:Value} (n:Nat) (hi:ops[i]?=some oi) (hE:i∈Ju md ops E n) (hsel:∀(j:Nat) (o:Oper) cs b,ops[j]?=some o→o.op≠ .select cs b) (hQ:∀c a w,Q (.panic c) (a.put oi.dst v) w→Q (.panic c) a w):
 ∀(fuel:Nat) (listed:Array Bool) (a:Act) (w:World),b≤w.heap.size→mY md ops listed→
  (∀j oj,ops[j]?=some oj→j≠i→listed.getD j true=false→(∀e∈oj.after,Region.binds md e=true→e.on≠i)→oi.apart ops oj=true)→
  i∈Region.ready md ops listed→yM P ops b oi v a w→iw P md ops Q E b fuel (listed.setIfInBounds i true) (a.put oi.dst v) w→iw P md ops Q E b (fuel+1) listed a w:=by
 open aik in exact Xw
structure Und (b:Nat) (w:World) where
 x:World
 h:Below b w x
theorem fO {b:Nat} {w:World} {g i:Nat} {v:Option Value} (hg:g < b) (h:w.cell? ⟨g,i,none⟩=v):∀p:Und b w,p.x.cell? ⟨g,i,none⟩=v:=fun p=>(p.h.cell (p:=⟨g,i,none⟩) hg).trans h
theorem Jq (i n:Nat) {oi:Oper} {fuel:Nat} {listed:Array Bool} {a:Act} {w:World} (hb:b≤w.heap.size) (hi:ops[i]?=some oi) (hs:Region.noSelect ops=true) (hf:Region.free md ops listed i=true) (hr:(Region.ready md ops listed).contains i=true)
 (hcl:nA md ops listed=true) (hE:(Ju md ops E n).contains i=true)
 (hQ:∀v c a w,Q (.panic c) (a.put oi.dst v) w→Q (.panic c) a w)
 (h:∀K:Act→Prop,(∀a',iw P md ops Q E b fuel (listed.setIfInBounds i true) a' w→K a')→if Region.wanted oi (yielded ops a.tmps) then∃v,(∀p:Und b w,Oper.quietUpon P (Ge p.x) p.x v ((execOp a.eval oi).run P p.x))∧K (a.put oi.dst v) else K (a.put oi.dst undef)):
 iw P md ops Q E b (fuel+1) listed a w:=by
 have h':=h _ fun _ h=>h
 have hE':i∈Ju md ops E n:=by simpa using hE
 by_cases hw:Region.wanted oi (yielded ops a.tmps)=true
 ·rw [if_pos hw] at h';obtain⟨v,hv,hk⟩:=h';exact wC n hi hE' (Region.noSelect_spec hs) (hQ v) fuel listed a w hb (iY hcl) (Region.free_spec hi hf) (by simpa using hr) (.inl ⟨hw,fun x hx=>hv ⟨x,hx⟩⟩) hk
 ·rw [if_neg hw] at h';exact wC n hi hE' (Region.noSelect_spec hs) (hQ undef) fuel listed a w hb (iY hcl) (Region.free_spec hi hf) (by simpa using hr) (.inr ⟨by simpa using hw,rfl⟩) h'
theorem gL (i:Nat) {oi:Oper} {fuel:Nat} {listed:Array Bool} {a:Act} {w:World} (hi:ops[i]?=some oi) (hr:Region.ready md ops listed=[i]) (hw:Region.wanted oi (yielded ops a.tmps)=true) (hiE:i≠E)
 (h:∀x,Ge w x→oi.wp P a x (fun a' y=>Below b x y∧iw P md ops Q E b fuel (listed.setIfInBounds i true) a' y) Q):iw P md ops Q E b (fuel+1) listed a w:=by
 exact ane
theorem jB (i j:Nat) {oi oj:Oper} {fuel:Nat} {listed:Array Bool} {a:Act} {w:World} (hi:ops[i]?=some oi) (hj:ops[j]?=some oj) (hr:Region.ready md ops listed=[i,j]) (hwi:Region.wanted oi (yielded ops a.tmps)=true) (hwj:Region.wanted oj (yielded ops a.tmps)=true) (hiE:i≠E) (hjE:j≠E)
 (h1:∀x,Ge w x→oi.wp P a x (fun a' y=>Below b x y∧iw P md ops Q E b fuel (listed.setIfInBounds i true) a' y) Q)
 (h2:∀x,Ge w x→oj.wp P a x (fun a' y=>Below b x y∧iw P md ops Q E b fuel (listed.setIfInBounds j true) a' y) Q):iw P md ops Q E b (fuel+1) listed a w:=by
 intro x hx;rw [hr];refine⟨fun h=>(by cases h),fun k hk=>?_⟩;have hk':k=i∨k=j:=by simpa using hk
 rcases hk' with rfl|rfl
 ·refine⟨fun e=>absurd e hiE,fun _=>?_⟩;exact QM
 ·refine⟨fun e=>absurd e hjE,fun _=>?_⟩;exact QN
theorem pX {fuel:Nat} {listed:Array Bool} {a:Act} {w:World} (hr:Region.ready md ops listed=[E]) (h:∀x,Ge w x→wpAny P md ops Q (fuel+1) listed a x):iw P md ops Q E b (fuel+1) listed a w:=fun x hx=>⟨(h x hx).1,fun i hi=>⟨fun _=>(h x hx).2 i hi,fun hne=>absurd (by rw [hr] at hi;simpa using hi) hne⟩⟩
theorem mU (E b:Nat) {id:Nat} {a:Act} {w:World} (hm:P.follows .mixedOrders=true) (h:iw P .any ops Q E b ops.size (Array.replicate ops.size false) a w):(Code.region id ops true).wp P Q a w:=
 wp_region_any hm (sU (E:=E) (b:=b) _ _ _ _ (xY (w:=w) (x:={w with drawn:=w.drawn+1}) ⟨rfl,rfl,rfl,Nat.le_refl _,fun _ _=>rfl⟩ h))
end
end Go.Proofs.YtacgbldlonoaaaaGreatDoor
