/- Parts. -/
import Derived.Test.YtdlokncalhopoaaGreatPy15
import Derived.Test.YtdlokncalhopoaaGreatPy2
import Derived.Test.YtdlokncalhopoaaGreatPy3
import Derived.Test.YtdlokncalhopoaaGreatPy1
import Derived.Test.YtdlokncalhopoaaGreatPy13
import Derived.OrdersHeld
import Derived.Lib.QuietBelow
namespace Go.Proofs.YtdlokncalhopoaaGreat
open Go.RowKit Go.Maps
open Mth
theorem PuW.of_own {w:World} {B:Nat} {v:Value} {l:List Pu} (h:w.ownsRow B 80 4 v l.length (GR.flat encP l)) (hB:B≤w.heap.size):∃a c g,v= .slice a l.length c∧B≤g∧PuW w a g l:=by
 obtain⟨a,c,rfl,hat⟩:=GR.own_at encP_length h
 rcases h.2 with⟨hv,hn⟩|⟨g,cap,cur,hv,hg,hblk,_⟩
 ·have hl:l=[]:=List.eq_nil_of_length_eq_zero hn
  subst hl
  exact⟨_,_,w.heap.size,rfl,hB,PuW.nil⟩
 ·cases hv
  refine⟨_,_,g,rfl,hg,fun i hi=>?_⟩
  obtain⟨g',off',e,hg',hc⟩:=hat i hi
  cases e
  refine⟨rfl,hg',fun j hj=>⟨?_,?_⟩⟩
  ·have:=hc j hj
   rwa [Nat.zero_add] at this
  ·unfold World.frozen?;rw [hblk];simp
open Go.RowKit
theorem newsG {α:Type} {enc:α→List Value} {sz:Nat} (hs:∀x,(enc x).length=sz) (hz:0 < sz) {w:World} {x:Addr} {l:List α} (h:GR.At enc sz w (some x) l):∀j u,(GR.flat enc l)[j]?=some u→w.cell? (x.add j)=some u:=by
 intro j u hu
 have hj:j < l.length*sz:=by
  have:=(List.getElem?_eq_some_iff.1 hu).1
  rwa [GR.flat_length enc sz hs] at this
 have hi:j / sz < l.length:=Nat.div_lt_of_lt_mul (by rw [Nat.mul_comm];exact hj)
 have hr:j % sz < sz:=Nat.mod_lt _ hz
 have ej:j / sz*sz+j % sz=j:=by rw [Nat.mul_comm];exact Nat.div_add_mod j sz
 obtain⟨g,off,e,hg,hc⟩:=h (j / sz) hi
 have hf:=GR.flat_at enc sz hs l (j / sz) hi (j % sz) hr
 rw [ej] at hf
 have h2:=hc (j % sz) hr
 rw [ej,←hf,hu] at h2
 injection e with e
 subst e
 rw [Addr.add_lit]
 exact h2
theorem flatSnt_one (l:List Snt):∀u∈GR.flat encSnt l,u.oneCell'=true:=by
 intro u hu
 unfold GR.flat at hu
 rw [List.mem_flatMap] at hu
 obtain⟨p,_,hp⟩:=hu
 simp only[encSnt,List.mem_cons,List.not_mem_nil,or_false] at hp
 rcases hp with rfl|rfl|rfl|rfl<;>rfl
theorem own_blk {α:Type} {enc:α→List Value} {sz:Nat} {w:World} {B:Nat} {t:TypeId} {a:Option Addr} {cp:Nat} {l:List α} (h:w.ownsRow B t sz (.slice a l.length cp) l.length (GR.flat enc l)) (hl:0 < l.length):∃g rest,a=some ⟨g,0,none⟩∧B≤g∧w.heap[g]?=some (.cells (GR.flat enc l++rest).toArray t (0,0)):=by
 rcases h.2 with⟨_,hy⟩|⟨g,cp',cur,hx,hbg,hgg,hnc,hcm,hcs,htk⟩
 ·omega
 simp only[Value.slice.injEq] at hx
 obtain⟨rfl,_,rfl⟩:=hx
 refine⟨g,cur.toList.drop (l.length*sz),rfl,hbg,?_⟩
 rw [←htk,List.take_append_drop,Array.toArray_toList]
 exact hgg
theorem eleven_at {w:World} {g:Nat} {a0 a1 a2 a3 a4 a5 a6 a7 a8 a9 a10:Value} {t:TypeId} (h:w.heap[g]?=some (.cells #[a0,a1,a2,a3,a4,a5,a6,a7,a8,a9,a10] t (0,0))):
 (w.cell? ⟨g,0,none⟩=some a0∧w.cell? ⟨g,1,none⟩=some a1∧w.cell? ⟨g,2,none⟩=some a2∧w.cell? ⟨g,3,none⟩=some a3∧w.cell? ⟨g,4,none⟩=some a4∧w.cell? ⟨g,5,none⟩=some a5∧w.cell? ⟨g,6,none⟩=some a6∧w.cell? ⟨g,7,none⟩=some a7∧w.cell? ⟨g,8,none⟩=some a8∧w.cell? ⟨g,9,none⟩=some a9∧w.cell? ⟨g,10,none⟩=some a10)∧(w.frozen? ⟨g,0,none⟩=false∧w.frozen? ⟨g,1,none⟩=false∧w.frozen? ⟨g,2,none⟩=false∧w.frozen? ⟨g,3,none⟩=false∧w.frozen? ⟨g,4,none⟩=false∧w.frozen? ⟨g,5,none⟩=false∧w.frozen? ⟨g,6,none⟩=false∧w.frozen? ⟨g,7,none⟩=false∧w.frozen? ⟨g,8,none⟩=false∧w.frozen? ⟨g,9,none⟩=false∧w.frozen? ⟨g,10,none⟩=false):=by
 have hf:∀i,w.frozen? ⟨g,i,none⟩=false:=fun i=>by unfold World.frozen?;rw [h];simp
 have hc:∀i,w.cell? ⟨g,i,none⟩=#[a0,a1,a2,a3,a4,a5,a6,a7,a8,a9,a10][i]?:=fun i=>cell_of_row w g i _ t (0,0) h
 exact⟨⟨hc 0,hc 1,hc 2,hc 3,hc 4,hc 5,hc 6,hc 7,hc 8,hc 9,hc 10⟩,hf 0,hf 1,hf 2,hf 3,hf 4,hf 5,hf 6,hf 7,hf 8,hf 9,hf 10⟩
theorem eleven_set {w:World} {g:Nat} {a0 a1 a2 a3 a4 a5 a6 a7 a8 a9 a10 b0 b1 b2 b3 b4 b5 b6 b7 b8 b9 b10:Value} {t:TypeId} (h:w.heap[g]?=some (.cells #[a0,a1,a2,a3,a4,a5,a6,a7,a8,a9,a10] t (0,0))):(((((((((((w.setCell ⟨g,0,none⟩ b0).setCell ⟨g,1,none⟩ b1).setCell ⟨g,2,none⟩ b2).setCell ⟨g,3,none⟩ b3).setCell ⟨g,4,none⟩ b4).setCell ⟨g,5,none⟩ b5).setCell ⟨g,6,none⟩ b6).setCell ⟨g,7,none⟩ b7).setCell ⟨g,8,none⟩ b8).setCell ⟨g,9,none⟩ b9).setCell ⟨g,10,none⟩ b10).heap[g]?=some (.cells #[b0,b1,b2,b3,b4,b5,b6,b7,b8,b9,b10] t (0,0)):=
 GR.setW_blk [b0,b1,b2,b3,b4,b5,b6,b7,b8,b9,b10] (o:=0) (xs:=[a0,a1,a2,a3,a4,a5,a6,a7,a8,a9,a10]) h
theorem eleven_set_below {a w:World} {B g:Nat} {b0 b1 b2 b3 b4 b5 b6 b7 b8 b9 b10:Value} (h:Below B a w) (hg:B≤g):Below B a (((((((((((w.setCell ⟨g,0,none⟩ b0).setCell ⟨g,1,none⟩ b1).setCell ⟨g,2,none⟩ b2).setCell ⟨g,3,none⟩ b3).setCell ⟨g,4,none⟩ b4).setCell ⟨g,5,none⟩ b5).setCell ⟨g,6,none⟩ b6).setCell ⟨g,7,none⟩ b7).setCell ⟨g,8,none⟩ b8).setCell ⟨g,9,none⟩ b9).setCell ⟨g,10,none⟩ b10):=
 GR.setW_below hg [b0,b1,b2,b3,b4,b5,b6,b7,b8,b9,b10] (o:=0) h
theorem bodyPost_atE {P:Program} {fn:Func} {Q:Ending→World→Prop} {x:Exit} {act:Act} {W:World} (h:∀W',W'=W→bodyPost P fn Q x act W'):bodyPost P fn Q x act W:=h W rfl
theorem allocsE2 (w:World) (a b:Obj):((w.alloc a).alloc b).heap[w.heap.size]?=some a∧((w.alloc a).alloc b).heap[w.heap.size+1]?=some b∧Below w.heap.size w ((w.alloc a).alloc b):=by
 have e1:(w.alloc a).heap.size=w.heap.size+1:=by simp
 have h4:=heap_alloc_new (w.alloc a) b
 have h6:=Below.heap_alloc (w.alloc a) b w.heap.size (by omega)
 rw [e1] at h4
 exact⟨h6.trans (heap_alloc_new w a),h4,(below_one w a).alloc (by omega) b⟩
abbrev Ge (w w':World):Prop:=Below w.heap.size w w'
theorem Ge.trans {a b c:World} (h:Ge a b) (h':Ge b c):Ge a c:=Below.trans h (Below.mono h' (Below.size h))
abbrev Gr (w:World) (p:Regrown):World:=Sort.grow (redrawn w p.d) p.os
section
variable {P:Program} {ops:Array Oper} {Q:Exit→Act→World→Prop} {md:Region.Mode}
def wpMix (P:Program) (md:Region.Mode) (ops:Array Oper) (Q:Exit→Act→World→Prop):Nat→Array Bool→Act→World→Prop
 |0,listed,a,w=>Region.ready md ops listed=[]∧∀x,Ge w x→Q .normal a x
 |fuel+1,listed,a,w=>∀x,Ge w x→(Region.ready md ops listed=[]→Q .normal a x)∧∀i∈Region.ready md ops listed,wpOp P ops Q i (fun a' y=>Ge x y∧wpMix P md ops Q fuel (listed.setIfInBounds i true) a' y) a x
theorem wpMix_grow {fuel:Nat} {listed:Array Bool} {a:Act} {w x:World} (hx:Ge w x) (h:wpMix P md ops Q fuel listed a w):wpMix P md ops Q fuel listed a x:=by
 cases fuel with
 |zero=>exact⟨h.1,fun y hy=>h.2 y (Ge.trans hx hy)⟩
 |succ fuel=>exact fun y hy=>h y (Ge.trans hx hy)
theorem wpAny_of_mix:∀(fuel:Nat) (listed:Array Bool) (a:Act) (w:World),wpMix P md ops Q fuel listed a w→wpAny P md ops Q fuel listed a w
 |0,_,_,w,h=>⟨h.1,h.2 w (Below.refl _ _)⟩
 |fuel+1,_,_,w,h=>⟨(h w (Below.refl _ _)).1,fun i hi=>wpOp_mono (fun a' y hy=>wpAny_of_mix fuel _ a' y hy.2) ((h w (Below.refl _ _)).2 i hi)⟩
def YieldsG (P:Program) (ops:Array Oper) (o:Oper) (v:Value) (a:Act) (w:World):Prop:=
 (Region.wanted o (yielded ops a.tmps)=true∧∀x,Ge w x→Oper.quietUpon P (Ge x) x v ((execOp a.eval o).run P x))∨(Region.wanted o (yielded ops a.tmps)=false∧v=undef)
theorem YieldsG.wpOp {i:Nat} {o:Oper} {v:Value} {a:Act} {w x:World} (hi:ops[i]?=some o) (hy:YieldsG P ops o v a w) (hx:Ge w x) {K:Act→World→Prop} (h:∀y,Ge x y→K (a.put o.dst v) y):wpOp P ops Q i K a x:=by
 unfold Go.wpOp
 simp only[hi]
 rcases hy with⟨hw,hv⟩|⟨hw,rfl⟩
 ·rw [if_pos hw]
  left
  have h1:=hv x hx
  unfold Oper.wp
  generalize (execOp a.eval o).run P x=r at *
  cases r with
  |halt e y=>simp only[Oper.quietUpon] at h1
  |ok n y=>
   cases n<;>simp only[Oper.quietUpon] at h1<;>simp only[Oper.upon]
   case value u=>obtain⟨rfl,rfl⟩:=h1;exact h _ (Below.refl _ _)
   case skip=>obtain⟨rfl,rfl⟩:=h1;exact h _ (Below.refl _ _)
   case enter f args=>
    obtain⟨rfl,hc⟩:=h1
    exact hc.mono fun e z ⟨he,hz⟩=>by subst he;exact h z hz
 ·rw [if_neg (by rw [hw];simp)]
  exact h _ (Below.refl _ _)
theorem wpOp_past {j:Nat} {oi oj:Oper} {v:Value} (hj:ops[j]?=some oj) (hap:oi.apart ops oj=true) (hsi:∀cs b,oi.op≠ .select cs b) (hsj:∀cs b,oj.op≠ .select cs b)
 (hQ:∀c a w,Q (.panic c) (a.put oi.dst v) w→Q (.panic c) a w) {K:Act→World→Prop} {a:Act} {x:World} (h:wpOp P ops Q j K (a.put oi.dst v) x):
 wpOp P ops Q j (fun a' y=>(execOp a'.eval oi=execOp a.eval oi∧Region.wanted oi (yielded ops a'.tmps)=Region.wanted oi (yielded ops a.tmps))∧K (a'.put oi.dst v) y) a x:=by
 obtain⟨g1,g2,g3⟩:=Oper.apart_spec hap
 have same:∀(b:Act) u,execOp (b.put oj.dst u).eval oi=execOp b.eval oi∧Region.wanted oi (yielded ops (b.put oj.dst u).tmps)=Region.wanted oi (yielded ops b.tmps):=fun b u=>⟨execOp_put oi hsi b oj.dst u g3,wanted_put oi b oj.dst u g3⟩
 unfold wpOp at *
 simp only[hj] at *
 rw [wanted_put oj a oi.dst v g1] at h
 by_cases hw:Region.wanted oj (yielded ops a.tmps)=true
 ·rw [if_pos hw] at h ⊢
  rcases h with h|⟨h,hl⟩
  ·left
   unfold Oper.wp at *
   rw [execOp_put oj hsj a oi.dst v g1] at h
   generalize (execOp a.eval oj).run P x=r at *
   cases r with
   |halt e y=>cases e<;>simp only[Oper.upon] at h ⊢;exact hQ _ _ _ h
   |ok n y=>
    cases n<;>simp only[Oper.upon] at h ⊢
    case value u=>exact⟨same a u,by rw [←Act.put_comm a v u g2];exact h⟩
    case skip=>exact⟨same a _,by rw [←Act.put_comm a v undef g2];exact h⟩
    case defer d=>
     refine⟨same {a with defers:=d::a.defers} _,?_⟩
     rw [←Act.put_comm _ v undef g2,←Act.put_defers]
     exact h
    case enter f args=>
     refine Calls.mono h fun e z he=>?_
     cases e with
     |returned u=>exact⟨same a u,by rw [←Act.put_comm a v u g2];exact he⟩
     |panicked c=>exact hQ _ _ _ he
     |outgrown=>exact he
    case row r args=>exact Rows.mono h fun u z he=>⟨same a u,by rw [←Act.put_comm a v u g2];exact he⟩
  ·right
   refine⟨?_,hl⟩
   unfold Oper.asks at *
   rw [execOp_put oj hsj a oi.dst v g1] at h
   exact h
 ·rw [if_neg hw] at h ⊢
  exact⟨same a _,by rw [←Act.put_comm a v undef g2];exact h⟩
theorem wpMix_first {i:Nat} {oi:Oper} {v:Value} (hi:ops[i]?=some oi) (hsel:∀(j:Nat) (o:Oper) cs b,ops[j]?=some o→o.op≠ .select cs b) (hQ:∀c a w,Q (.panic c) (a.put oi.dst v) w→Q (.panic c) a w):
 ∀(fuel:Nat) (listed:Array Bool) (a:Act) (w:World),
  (∀j oj,ops[j]?=some oj→j≠i→listed.getD j true=false→(∀e∈oj.after,Region.binds md e=true→e.on≠i)→oi.apart ops oj=true)→
  i∈Region.ready md ops listed→YieldsG P ops oi v a w→wpMix P md ops Q fuel (listed.setIfInBounds i true) (a.put oi.dst v) w→wpMix P md ops Q (fuel+1) listed a w:=by
 intro fuel
 induction fuel with
 |zero=>
  intro listed a w _ hr hy H x hx
  refine⟨fun h=>(by rw [h] at hr;cases hr),fun j hj=>?_⟩
  by_cases hji:j=i
  ·subst hji
   exact hy.wpOp hi hx fun y hy'=>⟨hy',wpMix_grow (Ge.trans hx hy') H⟩
  ·have:=ready_mono hj hji
   rw [H.1] at this
   cases this
 |succ fuel ih=>
  intro listed a w hfree hr hy H x hx
  refine⟨fun h=>(by rw [h] at hr;cases hr),fun j hj=>?_⟩
  by_cases hji:j=i
  ·subst hji
   exact hy.wpOp hi hx fun y hy'=>⟨hy',wpMix_grow (Ge.trans hx hy') H⟩
  ·have h1:=(H x hx).2 j (ready_mono hj hji)
   obtain⟨hjun,oj,hoj,hall⟩:=mem_ready.1 hj
   have hnot:∀e∈oj.after,Region.binds md e=true→e.on≠i:=fun e he hb heq=>by
    have h2:=hall e he hb
    have h0:=(mem_ready.1 hr).1
    rw [heq] at h2
    rcases Nat.lt_or_ge i listed.size with h'|h'
    ·simp[h'] at h0 h2;rw [h0] at h2;cases h2
    ·simp[Array.getElem?_eq_none h'] at h2
   have h2:=wpOp_past hoj (hfree j oj hoj hji hjun hnot) (fun cs b=>hsel i oi cs b hi) (fun cs b=>hsel j oj cs b hoj) hQ h1
   refine wpOp_mono (fun a' y hy2=>?_) h2
   obtain⟨⟨hs1,hs2⟩,hg,hm⟩:=hy2
   refine⟨hg,ih (listed.setIfInBounds j true) a' y ?_ (ready_mono hr (Ne.symm hji)) ?_ ?_⟩
   ·intro k ok hk hki hun hno
    refine hfree k ok hk hki ?_ hno
    by_cases hjk:j=k
    ·subst hjk;exact hjun
    ·rw [getD_set_ne true hjk] at hun;exact hun
   ·unfold YieldsG at *
    rw [hs1,hs2]
    exact hy.imp (fun⟨p,q⟩=>⟨p,fun z hz=>q z (Ge.trans (Ge.trans hx hg) hz)⟩) id
   ·rw [Array.setIfInBounds_comm _ _ hji]
    exact hm
theorem wpMix_take (i:Nat) {oi:Oper} {fuel:Nat} {listed:Array Bool} {a:Act} {w:World} (hi:ops[i]?=some oi) (hs:Region.noSelect ops=true) (hf:Region.free md ops listed i=true) (hr:(Region.ready md ops listed).contains i=true)
 (hQ:∀v c a w,Q (.panic c) (a.put oi.dst v) w→Q (.panic c) a w)
 (h:∀K:Act→Prop,(∀a',wpMix P md ops Q fuel (listed.setIfInBounds i true) a' w→K a')→if Region.wanted oi (yielded ops a.tmps) then∃v,(∀p:Regrown,Oper.quietUpon P (Ge (Gr w p)) (Gr w p) v ((execOp a.eval oi).run P (Gr w p)))∧K (a.put oi.dst v) else K (a.put oi.dst undef)):
 wpMix P md ops Q (fuel+1) listed a w:=by
 have h':=h _ fun _ h=>h
 by_cases hw:Region.wanted oi (yielded ops a.tmps)=true
 ·rw [if_pos hw] at h'
  obtain⟨v,hv,hk⟩:=h'
  refine wpMix_first hi (Region.noSelect_spec hs) (hQ v) fuel listed a w (Region.free_spec hi hf) (by simpa using hr) (.inl ⟨hw,fun x hx=>?_⟩) hk
  obtain⟨p,rfl⟩:=regrown_of_below hx
  exact hv p
 ·rw [if_neg hw] at h'
  exact wpMix_first hi (Region.noSelect_spec hs) (hQ undef) fuel listed a w (Region.free_spec hi hf) (by simpa using hr) (.inr ⟨by simpa using hw,rfl⟩) h'
theorem wpMix_one (i:Nat) {oi:Oper} {fuel:Nat} {listed:Array Bool} {a:Act} {w:World} (hi:ops[i]?=some oi) (hr:Region.ready md ops listed=[i]) (hw:Region.wanted oi (yielded ops a.tmps)=true)
 (h:∀x,Ge w x→oi.wp P a x (fun a' y=>Ge x y∧wpMix P md ops Q fuel (listed.setIfInBounds i true) a' y) Q):wpMix P md ops Q (fuel+1) listed a w:=by
 intro x hx
 rw [hr]
 refine⟨fun h=>(by cases h),fun j hj=>?_⟩
 obtain rfl:j=i:=by simpa using hj
 unfold wpOp
 simp only[hi]
 rw [if_pos hw]
 exact .inl (h x hx)
theorem wpMix_done {listed:Array Bool} {a:Act} {w:World} (hr:Region.ready md ops listed=[]) (h:∀x,Ge w x→Q .normal a x):wpMix P md ops Q 0 listed a w:=⟨hr,h⟩
theorem wp_region_mix {id:Nat} {a:Act} {w:World} (hm:P.follows .mixedOrders=true) (h:wpMix P .any ops Q ops.size (Array.replicate ops.size false) a w):(Code.region id ops true).wp P Q a w:=
 wp_region_any hm (wpAny_of_mix _ _ _ _ (wpMix_grow (w:=w) (x:={w with drawn:=w.drawn+1}) ⟨rfl,rfl,rfl,Nat.le_refl _,fun _ _=>rfl⟩ h))
end
section
variable {P:Program} {ops:Array Oper} {Q:Exit→Act→World→Prop} {md:Region.Mode} {E:Nat}
def depsOf (md:Region.Mode) (ops:Array Oper) (j:Nat):List Nat:=match ops[j]? with
 |some o=>(o.after.toList.filter (fun e=>Region.binds md e)).map (fun e=>e.on)
 |none=>[]
def ancS (md:Region.Mode) (ops:Array Oper) (S:List Nat):List Nat:=(S++S.flatMap (depsOf md ops)).eraseDups
def anc (md:Region.Mode) (ops:Array Oper) (E:Nat):Nat→List Nat
 |0=>depsOf md ops E
 |n+1=>ancS md ops (anc md ops E n)
def ClosedL (md:Region.Mode) (ops:Array Oper) (L:Array Bool):Prop:=∀j oj,ops[j]?=some oj→L.getD j false=true→∀e∈oj.after,Region.binds md e=true→L.getD e.on false=true
def closedB (md:Region.Mode) (ops:Array Oper) (L:Array Bool):Bool:=(List.range ops.size).all fun j=> !(L.getD j false)||(depsOf md ops j).all (fun k=>L.getD k false)
theorem mem_depsOf {j:Nat} {oj:Oper} (hj:ops[j]?=some oj) {k:Nat}:k∈depsOf md ops j↔∃e∈oj.after,Region.binds md e=true∧e.on=k:=by
 unfold depsOf
 rw [hj]
 simp only[List.mem_map,List.mem_filter,Array.mem_toList_iff]
 constructor
 ·rintro⟨e,⟨h1,h2⟩,h3⟩;exact⟨e,h1,h2,h3⟩
 ·rintro⟨e,h1,h2,h3⟩;exact⟨e,⟨h1,h2⟩,h3⟩
theorem closedB_spec {L:Array Bool} (h:closedB md ops L=true):ClosedL md ops L:=by
 intro j oj hj hl e he hb
 unfold closedB at h
 rw [List.all_eq_true] at h
 have hjs:j < ops.size:=by
  rcases Nat.lt_or_ge j ops.size with h'|h'
  ·exact h'
  ·rw [Array.getElem?_eq_none h'] at hj;cases hj
 have h1:=h j (List.mem_range.2 hjs)
 rw [hl] at h1
 simp only[Bool.not_true,Bool.false_or,List.all_eq_true] at h1
 exact h1 e.on ((mem_depsOf hj).2 ⟨e,he,hb,rfl⟩)
theorem anc_listed {L:Array Bool} (hc:ClosedL md ops L) (hE:E∈Region.ready md ops L):∀n,∀k∈anc md ops E n,L.getD k false=true:=by
 obtain⟨_,o,ho,hall⟩:=mem_ready.1 hE
 intro n
 induction n with
 |zero=>
  intro k hk
  obtain⟨e,he,hb,rfl⟩:=(mem_depsOf ho).1 hk
  exact hall e he hb
 |succ n ih=>
  intro k hk
  have hk':k∈(anc md ops E n++(anc md ops E n).flatMap (depsOf md ops)).eraseDups:=hk
  rw [List.mem_eraseDups,List.mem_append,List.mem_flatMap] at hk'
  rcases hk' with h|⟨d,hd,hkd⟩
  ·exact ih k h
  ·cases hod:ops[d]? with
   |none=>unfold depsOf at hkd;rw [hod] at hkd;cases hkd
   |some od=>
    obtain⟨e,he,hb,rfl⟩:=(mem_depsOf hod).1 hkd
    exact hc d od hod (ih d hd) e he hb
theorem closed_set {L:Array Bool} {j:Nat} (hc:ClosedL md ops L) (hj:j∈Region.ready md ops L):ClosedL md ops (L.setIfInBounds j true):=by
 obtain⟨_,o,ho,hall⟩:=mem_ready.1 hj
 intro k ok hk hl e he hb
 by_cases hjk:j=k
 ·subst hjk
  obtain rfl:=Option.some.inj (ho.symm.trans hk)
  exact getD_set_true (hall e he hb)
 ·rw [getD_set_ne false hjk] at hl
  exact getD_set_true (hc k ok hk hl e he hb)
def wpMixE (P:Program) (md:Region.Mode) (ops:Array Oper) (Q:Exit→Act→World→Prop) (E:Nat):Nat→Array Bool→Act→World→Prop
 |0,listed,a,w=>Region.ready md ops listed=[]∧∀x,Ge w x→Q .normal a x
 |fuel+1,listed,a,w=>(Region.ready md ops listed=[E]∧∀x,Ge w x→wpAny P md ops Q (fuel+1) listed a x)∨
  ∀x,Ge w x→(Region.ready md ops listed=[]→Q .normal a x)∧∀i∈Region.ready md ops listed,wpOp P ops Q i (fun a' y=>Ge x y∧wpMixE P md ops Q E fuel (listed.setIfInBounds i true) a' y) a x
theorem wpMixE_grow {fuel:Nat} {listed:Array Bool} {a:Act} {w x:World} (hx:Ge w x) (h:wpMixE P md ops Q E fuel listed a w):wpMixE P md ops Q E fuel listed a x:=by
 cases fuel with
 |zero=>exact⟨h.1,fun y hy=>h.2 y (Ge.trans hx hy)⟩
 |succ fuel=>
  rcases h with⟨h1,h2⟩|h
  ·exact .inl ⟨h1,fun y hy=>h2 y (Ge.trans hx hy)⟩
  ·exact .inr fun y hy=>h y (Ge.trans hx hy)
theorem wpAny_of_mixE:∀(fuel:Nat) (listed:Array Bool) (a:Act) (w:World),wpMixE P md ops Q E fuel listed a w→wpAny P md ops Q fuel listed a w
 |0,_,_,w,h=>⟨h.1,h.2 w (Below.refl _ _)⟩
 |_+1,_,_,w,.inl h=>h.2 w (Below.refl _ _)
 |fuel+1,_,_,w,.inr h=>⟨(h w (Below.refl _ _)).1,fun i hi=>wpOp_mono (fun a' y hy=>wpAny_of_mixE fuel _ a' y hy.2) ((h w (Below.refl _ _)).2 i hi)⟩
theorem wpMixE_first {i:Nat} {oi:Oper} {v:Value} (n:Nat) (hi:ops[i]?=some oi) (hE:i∈anc md ops E n) (hsel:∀(j:Nat) (o:Oper) cs b,ops[j]?=some o→o.op≠ .select cs b) (hQ:∀c a w,Q (.panic c) (a.put oi.dst v) w→Q (.panic c) a w):
 ∀(fuel:Nat) (listed:Array Bool) (a:Act) (w:World),ClosedL md ops listed→
  (∀j oj,ops[j]?=some oj→j≠i→listed.getD j true=false→(∀e∈oj.after,Region.binds md e=true→e.on≠i)→oi.apart ops oj=true)→
  i∈Region.ready md ops listed→YieldsG P ops oi v a w→wpMixE P md ops Q E fuel (listed.setIfInBounds i true) (a.put oi.dst v) w→wpMixE P md ops Q E (fuel+1) listed a w:=by
 intro fuel
 induction fuel with
 |zero=>
  intro listed a w _ _ hr hy H
  refine .inr fun x hx=>⟨fun h=>(by rw [h] at hr;cases hr),fun j hj=>?_⟩
  by_cases hji:j=i
  ·subst hji
   exact hy.wpOp hi hx fun y hy'=>⟨hy',wpMixE_grow (Ge.trans hx hy') H⟩
  ·have:=ready_mono hj hji
   rw [H.1] at this
   cases this
 |succ fuel ih=>
  intro listed a w hcl hfree hr hy H
  refine .inr fun x hx=>⟨fun h=>(by rw [h] at hr;cases hr),fun j hj=>?_⟩
  by_cases hji:j=i
  ·subst hji
   exact hy.wpOp hi hx fun y hy'=>⟨hy',wpMixE_grow (Ge.trans hx hy') H⟩
  ·rcases H with⟨h1,_⟩|H
   ·exfalso
    have h2:=ready_mono hj hji
    rw [h1] at h2
    obtain rfl:j=E:=by simpa using h2
    have h3:=anc_listed hcl hj n i hE
    have h4:=(mem_ready.1 hr).1
    rcases Nat.lt_or_ge i listed.size with h'|h'
    ·simp[h'] at h3 h4;rw [h4] at h3;cases h3
    ·simp[Array.getElem?_eq_none h'] at h3
   ·have h1:=(H x hx).2 j (ready_mono hj hji)
    obtain⟨hjun,oj,hoj,hall⟩:=mem_ready.1 hj
    have hnot:∀e∈oj.after,Region.binds md e=true→e.on≠i:=fun e he hb heq=>by
     have h2:=hall e he hb
     have h0:=(mem_ready.1 hr).1
     rw [heq] at h2
     rcases Nat.lt_or_ge i listed.size with h'|h'
     ·simp[h'] at h0 h2;rw [h0] at h2;cases h2
     ·simp[Array.getElem?_eq_none h'] at h2
    have h2:=wpOp_past hoj (hfree j oj hoj hji hjun hnot) (fun cs b=>hsel i oi cs b hi) (fun cs b=>hsel j oj cs b hoj) hQ h1
    refine wpOp_mono (fun a' y hy2=>?_) h2
    obtain⟨⟨hs1,hs2⟩,hg,hm⟩:=hy2
    refine⟨hg,ih (listed.setIfInBounds j true) a' y (closed_set hcl hj) ?_ (ready_mono hr (Ne.symm hji)) ?_ ?_⟩
    ·intro k ok hk hki hun hno
     refine hfree k ok hk hki ?_ hno
     by_cases hjk:j=k
     ·subst hjk;exact hjun
     ·rw [getD_set_ne true hjk] at hun;exact hun
    ·unfold YieldsG at *
     rw [hs1,hs2]
     exact hy.imp (fun⟨p,q⟩=>⟨p,fun z hz=>q z (Ge.trans (Ge.trans hx hg) hz)⟩) id
    ·rw [Array.setIfInBounds_comm _ _ hji]
     exact hm
theorem wpMixE_take (i n:Nat) {oi:Oper} {fuel:Nat} {listed:Array Bool} {a:Act} {w:World} (hi:ops[i]?=some oi) (hs:Region.noSelect ops=true) (hf:Region.free md ops listed i=true) (hr:(Region.ready md ops listed).contains i=true)
 (hcl:closedB md ops listed=true) (hE:(anc md ops E n).contains i=true)
 (hQ:∀v c a w,Q (.panic c) (a.put oi.dst v) w→Q (.panic c) a w)
 (h:∀K:Act→Prop,(∀a',wpMixE P md ops Q E fuel (listed.setIfInBounds i true) a' w→K a')→if Region.wanted oi (yielded ops a.tmps) then∃v,(∀p:Regrown,Oper.quietUpon P (Ge (Gr w p)) (Gr w p) v ((execOp a.eval oi).run P (Gr w p)))∧K (a.put oi.dst v) else K (a.put oi.dst undef)):
 wpMixE P md ops Q E (fuel+1) listed a w:=by
 have h':=h _ fun _ h=>h
 have hE':i∈anc md ops E n:=by simpa using hE
 by_cases hw:Region.wanted oi (yielded ops a.tmps)=true
 ·rw [if_pos hw] at h'
  obtain⟨v,hv,hk⟩:=h'
  refine wpMixE_first n hi hE' (Region.noSelect_spec hs) (hQ v) fuel listed a w (closedB_spec hcl) (Region.free_spec hi hf) (by simpa using hr) (.inl ⟨hw,fun x hx=>?_⟩) hk
  obtain⟨p,rfl⟩:=regrown_of_below hx
  exact hv p
 ·rw [if_neg hw] at h'
  exact wpMixE_first n hi hE' (Region.noSelect_spec hs) (hQ undef) fuel listed a w (closedB_spec hcl) (Region.free_spec hi hf) (by simpa using hr) (.inr ⟨by simpa using hw,rfl⟩) h'
theorem wpMixE_one (i:Nat) {oi:Oper} {fuel:Nat} {listed:Array Bool} {a:Act} {w:World} (hi:ops[i]?=some oi) (hr:Region.ready md ops listed=[i]) (hw:Region.wanted oi (yielded ops a.tmps)=true)
 (h:∀x,Ge w x→oi.wp P a x (fun a' y=>Ge x y∧wpMixE P md ops Q E fuel (listed.setIfInBounds i true) a' y) Q):wpMixE P md ops Q E (fuel+1) listed a w:=by
 refine .inr fun x hx=>?_
 rw [hr]
 refine⟨fun h=>(by cases h),fun j hj=>?_⟩
 obtain rfl:j=i:=by simpa using hj
 unfold wpOp
 simp only[hi]
 rw [if_pos hw]
 exact .inl (h x hx)
theorem wpMixE_leave {fuel:Nat} {listed:Array Bool} {a:Act} {w:World} (hr:Region.ready md ops listed=[E]) (h:∀x,Ge w x→wpAny P md ops Q (fuel+1) listed a x):wpMixE P md ops Q E (fuel+1) listed a w:= .inl ⟨hr,h⟩
theorem wpAny_one (i:Nat) {oi:Oper} {fuel:Nat} {listed:Array Bool} {a:Act} {w:World} (hi:ops[i]?=some oi) (hr:Region.ready md ops listed=[i]) (hw:Region.wanted oi (yielded ops a.tmps)=true)
 (h:oi.wp P a w (wpAny P md ops Q fuel (listed.setIfInBounds i true)) Q):wpAny P md ops Q (fuel+1) listed a w:=by
 refine⟨fun h=>(by rw [hr] at h;cases h),fun j hj=>?_⟩
 rw [hr] at hj
 obtain rfl:j=i:=by simpa using hj
 unfold wpOp
 simp only[hi]
 rw [if_pos hw]
 exact .inl h
theorem wpAny_done {listed:Array Bool} {a:Act} {w:World} (hr:Region.ready md ops listed=[]) (h:Q .normal a w):wpAny P md ops Q 0 listed a w:=⟨hr,h⟩
theorem wpAny_pure (i:Nat) {oi:Oper} {fuel:Nat} {listed:Array Bool} {a:Act} {w:World} (hi:ops[i]?=some oi) (hs:Region.noSelect ops=true) (hf:Region.free md ops listed i=true) (hr:(Region.ready md ops listed).contains i=true)
 (hQ:∀v c a w,Q (.panic c) (a.put oi.dst v) w→Q (.panic c) a w)
 (h:∀K:Act→Prop,(∀a',wpAny P md ops Q fuel (listed.setIfInBounds i true) a' w→K a')→if Region.wanted oi (yielded ops a.tmps) then∃v,(∀x:World,(execOp a.eval oi).run P x= .ok (.value v) x)∧K (a.put oi.dst v) else K (a.put oi.dst undef)):
 wpAny P md ops Q (fuel+1) listed a w:=by
 have h':=h _ fun _ h=>h
 by_cases hw:Region.wanted oi (yielded ops a.tmps)=true
 ·rw [if_pos hw] at h'
  obtain⟨v,hv,hk⟩:=h'
  exact wpAny_take hi hs hf hr (hQ v) (.inl ⟨hw,hv⟩) hk
 ·rw [if_neg hw] at h'
  exact wpAny_take hi hs hf hr (hQ undef) (.inr ⟨by simpa using hw,rfl⟩) h'
theorem wp_region_mixE (E:Nat) {id:Nat} {a:Act} {w:World} (hm:P.follows .mixedOrders=true) (h:wpMixE P .any ops Q E ops.size (Array.replicate ops.size false) a w):(Code.region id ops true).wp P Q a w:=
 wp_region_any hm (wpAny_of_mixE _ _ _ _ (wpMixE_grow (w:=w) (x:={w with drawn:=w.drawn+1}) ⟨rfl,rfl,rfl,Nat.le_refl _,fun _ _=>rfl⟩ h))
end
end Go.Proofs.YtdlokncalhopoaaGreat
