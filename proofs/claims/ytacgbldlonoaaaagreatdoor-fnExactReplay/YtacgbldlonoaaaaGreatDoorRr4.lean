/- Parts. -/
import Derived.Test.YtacgbldlonoaaaaGreatDoorRr1
namespace Go.Proofs.YtacgbldlonoaaaaGreatDoor
open Go.RowKit
abbrev Ge (w w':World):Prop:=aX w w'
theorem Ge.trans {a b c:World} (h:Ge a b) (h':Ge b c):Ge a c:=Below.trans h (Below.mono h' (Below.size h))
abbrev Gr (w:World) (p:Regrown):World:=Sort.grow (redrawn w p.d) p.os
section
variable {P:Program} {ops:Array Oper} {Q:Exit->Act->World->Prop} {md:Region.Mode}
def gX (P:Program) (md:Region.Mode) (ops:Array Oper) (Q:Exit->Act->World->Prop):Nat->Array Bool->Act->World->Prop
 |0,listed,a,w=>Region.ready md ops listed=[]/\∀x,Ge w x->Q .normal a x
 |fuel+1,listed,a,w=>∀x,Ge w x->(Region.ready md ops listed=[]->Q .normal a x)/\∀i∈Region.ready md ops listed,wpOp P ops Q i (λa' y=>Ge x y/\gX P md ops Q fuel (listed.setIfInBounds i true) a' y) a x
theorem Eu {fuel:Nat} {listed:Array Bool} {a:Act} {w x:World} (hx:Ge w x) (h:gX P md ops Q fuel listed a w):gX P md ops Q fuel listed a x:=by
 exact afH
theorem yS:∀(fuel:Nat) (listed:Array Bool) (a:Act) (w:World),gX P md ops Q fuel listed a w->wpAny P md ops Q fuel listed a w
 |0,_,_,w,h=>⟨h.1,h.2 w (Below.refl _ _)⟩
 |fuel+1,_,_,w,h=>⟨(h w (Below.refl _ _)).1,λi hi=>wpOp_mono (λa' y hy=>yS fuel _ a' y hy.2) ((h w (Below.refl _ _)).2 i hi)⟩
def pV (P:Program) (ops:Array Oper) (o:Oper) (v:Value) (a:Act) (w:World):Prop:=
 (Region.wanted o (yielded ops a.tmps)=true/\∀x,Ge w x->Oper.quietUpon P (Ge x) x v ((execOp a.eval o).run P x))\/(Region.wanted o (yielded ops a.tmps)=false/\v=undef)
theorem pV.wpOp {i:Nat} {o:Oper} {v:Value} {a:Act} {w x:World} (hi:ops[i]?=some o) (hy:pV P ops o v a w) (hx:Ge w x) {K:Act->World->Prop} (h:∀y,Ge x y->K (a.put o.dst v) y):wpOp P ops Q i K a x:=by
 unfold Go.wpOp;simp only[hi];rcases hy with⟨hw,hv⟩|⟨hw,rfl⟩
 .rw [if_pos hw];left
  have h1:=hv x hx;unfold Oper.wp;generalize (execOp a.eval o).run P x=r at *;cases r with
  |halt e y=>simp only[Oper.quietUpon] at h1
  |ok n y=>
   cases n<;>simp only[Oper.quietUpon] at h1<;>simp only[Oper.upon]
   case value u=>obtain⟨rfl,rfl⟩:=h1;exact h _ (Below.refl _ _)
   case skip=>obtain⟨rfl,rfl⟩:=h1;exact h _ (Below.refl _ _)
   case enter f args=>
    obtain⟨rfl,hc⟩:=h1;exact hc.mono λe z ⟨he,hz⟩=>by subst he;exact h z hz
 .rw [if_neg (by rw [hw];simp)];exact h _ (Below.refl _ _)
theorem Vi {j:Nat} {oi oj:Oper} {v:Value} (hj:ops[j]?=some oj) (hap:oi.apart ops oj=true) (hsi:∀cs b,oi.op≠ .select cs b) (hsj:∀cs b,oj.op≠ .select cs b)
 (hQ:∀c a w,Q (.panic c) (a.put oi.dst v) w->Q (.panic c) a w) {K:Act->World->Prop} {a:Act} {x:World} (h:wpOp P ops Q j K (a.put oi.dst v) x):
 wpOp P ops Q j (λa' y=>(execOp a'.eval oi=execOp a.eval oi/\Region.wanted oi (yielded ops a'.tmps)=Region.wanted oi (yielded ops a.tmps))/\K (a'.put oi.dst v) y) a x:=by
 obtain⟨g1,g2,g3⟩:=Oper.apart_spec hap;have same:∀(b:Act) u,execOp (b.put oj.dst u).eval oi=execOp b.eval oi/\Region.wanted oi (yielded ops (b.put oj.dst u).tmps)=Region.wanted oi (yielded ops b.tmps):=λb u=>⟨execOp_put oi hsi b oj.dst u g3,wanted_put oi b oj.dst u g3⟩
 unfold wpOp at *;simp only[hj] at *;rw [wanted_put oj a oi.dst v g1] at h;by_cases hw:Region.wanted oj (yielded ops a.tmps)=true
 .rw [if_pos hw] at h ⊢;rcases h with h|⟨h,hl⟩
  .left
   unfold Oper.wp at *;rw [execOp_put oj hsj a oi.dst v g1] at h;generalize (execOp a.eval oj).run P x=r at *;cases r with
   |halt e y=>cases e<;>simp only[Oper.upon] at h ⊢;exact hQ _ _ _ h
   |ok n y=>
    cases n<;>simp only[Oper.upon] at h ⊢
    case value u=>exact⟨same a u,by rw [<-Act.put_comm a v u g2];exact h⟩
    case skip=>exact⟨same a _,by rw [<-Act.put_comm a v undef g2];exact h⟩
    case defer d=>
     refine⟨same {a with defers:=d::a.defers} _,?_⟩;rw [<-Act.put_comm _ v undef g2,<-Act.put_defers];exact h
    case enter f args=>
     refine Calls.mono h λe z he=>?_
     cases e with
     |returned u=>exact⟨same a u,by rw [<-Act.put_comm a v u g2];exact he⟩
     |panicked c=>exact hQ _ _ _ he
     |outgrown=>exact he
    case row r args=>exact Rows.mono h λu z he=>⟨same a u,by rw [<-Act.put_comm a v u g2];exact he⟩
  .right
   refine⟨?_,hl⟩;unfold Oper.asks at *;rw [execOp_put oj hsj a oi.dst v g1] at h;exact h
 .rw [if_neg hw] at h ⊢;exact⟨same a _,by rw [<-Act.put_comm a v undef g2];exact h⟩
theorem Bc {i:Nat} {oi:Oper} {v:Value} (hi:ops[i]?=some oi) (hsel:∀(j:Nat) (o:Oper) cs b,ops[j]?=some o->o.op≠ .select cs b) (hQ:∀c a w,Q (.panic c) (a.put oi.dst v) w->Q (.panic c) a w):
 ∀(fuel:Nat) (listed:Array Bool) (a:Act) (w:World),
  (∀j oj,ops[j]?=some oj->j≠i->listed.getD j true=false->(∀e∈oj.after,Region.binds md e=true->e.on≠i)->oi.apart ops oj=true)->
  i∈Region.ready md ops listed->pV P ops oi v a w->gX P md ops Q fuel (listed.setIfInBounds i true) (a.put oi.dst v) w->gX P md ops Q (fuel+1) listed a w:=by
 intro fuel;induction fuel with
 |zero=>
  intro listed a w _ hr hy H x hx
  refine⟨λh=>Abh,λj hj=>?_⟩
  by_cases hji:j=i
  .exact aeC
  .exact Rt
 |succ fuel ih=>
  intro listed a w hfree hr hy H x hx
  refine⟨λh=>Abh,λj hj=>?_⟩
  by_cases hji:j=i
  .exact aeC
  .have h1:=(H x hx).2 j (ready_mono hj hji);open aiy in exact afj
theorem dD (i:Nat) {oi:Oper} {fuel:Nat} {listed:Array Bool} {a:Act} {w:World} (hi:ops[i]?=some oi) (hs:Region.noSelect ops=true) (hf:Region.free md ops listed i=true) (hr:(Region.ready md ops listed).contains i=true)
 (hQ:∀v c a w,Q (.panic c) (a.put oi.dst v) w->Q (.panic c) a w)
 (h:∀K:Act->Prop,(∀a',gX P md ops Q fuel (listed.setIfInBounds i true) a' w->K a')->if Region.wanted oi (yielded ops a.tmps) then∃v,(∀p:Regrown,Oper.quietUpon P (Ge (Gr w p)) (Gr w p) v ((execOp a.eval oi).run P (Gr w p)))/\K (a.put oi.dst v) else K (a.put oi.dst undef)):
 gX P md ops Q (fuel+1) listed a w:=by
 have h':=h _ λ_ h=>h
 by_cases hw:Region.wanted oi (yielded ops a.tmps)=true
 .rw [if_pos hw] at h';obtain⟨v,hv,hk⟩:=h';refine Bc hi (Region.noSelect_spec hs) (hQ v) fuel listed a w (Region.free_spec hi hf) Abj (.inl ⟨hw,λx hx=>?_⟩) hk;exact Xw
 .rw [if_neg hw] at h';exact Bc hi (Region.noSelect_spec hs) (hQ undef) fuel listed a w (Region.free_spec hi hf) Abj (.inr ⟨Acg,rfl⟩) h'
theorem Aq (i:Nat) {oi:Oper} {fuel:Nat} {listed:Array Bool} {a:Act} {w:World} (hi:ops[i]?=some oi) (hr:Region.ready md ops listed=[i]) (hw:Region.wanted oi (yielded ops a.tmps)=true)
 (h:∀x,Ge w x->oi.wp P a x (λa' y=>Ge x y/\gX P md ops Q fuel (listed.setIfInBounds i true) a' y) Q):gX P md ops Q (fuel+1) listed a w:=by
 intro x hx;exact adU
theorem eX {listed:Array Bool} {a:Act} {w:World} (hr:Region.ready md ops listed=[]) (h:∀x,Ge w x->Q .normal a x):gX P md ops Q 0 listed a w:=⟨hr,h⟩
theorem dw {id:Nat} {a:Act} {w:World} (hm:P.follows .mixedOrders=true) (h:gX P .any ops Q ops.size (Array.replicate ops.size false) a w):(Code.region id ops true).wp P Q a w:=
 wp_region_any hm (yS _ _ _ _ (Eu (w:=w) (x:={w with drawn:=w.drawn+1}) ⟨rfl,rfl,rfl,Nat.le_refl _,λ_ _=>rfl⟩ h))
end
def gD (w:World) (g:Nat) (xs:List ByteArray):Prop:=w.heap[g]?=some (.cells (xs.map Value.string).toArray 9 (0,0))
theorem gD.cell {w:World} {g:Nat} {xs:List ByteArray} (h:gD w g xs) (i:Nat) (hi:i < xs.length):w.cell? ⟨g,i,none⟩=some (.string xs[i]):=by
 rw [cell_of_row w g i _ 9 (0,0) h];simp[hi]
theorem gD.free {w:World} {g:Nat} {xs:List ByteArray} (h:gD w g xs) (i:Nat):w.frozen? ⟨g,i,none⟩=false:=by
 unfold World.frozen?;rw [h];simp
theorem gD.lt {w:World} {g:Nat} {xs:List ByteArray} (h:gD w g xs):g < w.heap.size:=by
 rcases Nat.lt_or_ge g w.heap.size with h'|h'
 .exact h'
 .rw [gD,Array.getElem?_eq_none h'] at h;cases h
theorem gD.below {w w':World} {g B:Nat} {xs:List ByteArray} (h:gD w g xs) (hb:Below B w w') (hg:g < B):gD w' g xs:=by
 unfold gD;rw [hb.block g hg];exact h
theorem gD.set {w:World} {g:Nat} {xs:List ByteArray} (h:gD w g xs) (i:Nat) (t:ByteArray):gD (w.setCell ⟨g,i,none⟩ (.string t)) g (xs.set i t):=by
 unfold gD World.setCell;simp only[Array.getElem?_modify];rw [if_pos trivial,h];simp
structure Keeps (g:Nat) (w w':World):Prop where
 os:w'.os=w.os
 tape:w'.tape=w.tape
 output:w'.output=w.output
 size:w.heap.size<=w'.heap.size
 block:∀k,k < w.heap.size->k≠g->w'.heap[k]?=w.heap[k]?
theorem Keeps.refl (g:Nat) (w:World):Keeps g w w:=⟨rfl,rfl,rfl,Nat.le_refl _,λ_ _ _=>rfl⟩
theorem Keeps.trans {g:Nat} {a b c:World} (h:Keeps g a b) (k:Keeps g b c):Keeps g a c:=
 ⟨k.os.trans h.os,k.tape.trans h.tape,k.output.trans h.output,Nat.le_trans h.size k.size,λi hi hg=>(k.block i (Nat.lt_of_lt_of_le hi h.size) hg).trans (h.block i hi hg)⟩
theorem Keeps.of_below {g:Nat} {w w':World} (h:aX w w'):Keeps g w w':=⟨h.os,h.tape,h.output,h.size,λk hk _=>h.block k hk⟩
theorem Keeps.set {g i:Nat} {w:World} (v:Value):Keeps g w (w.setCell ⟨g,i,none⟩ v):=
 ⟨rfl,rfl,rfl,Aao,λk _ hg=>Below.heap_setCell _ _ _ _ hg⟩
theorem Keeps.below {g B:Nat} {w w':World} (h:Keeps g w w') (hB:B<=g) (hs:B<=w.heap.size):Below B w w':=⟨h.os,h.tape,h.output,h.size,λk hk=>h.block k Aaa Aaa⟩
theorem gD.keeps {w w':World} {g g':Nat} {xs:List ByteArray} (h:gD w g' xs) (hk:Keeps g w w') (hne:g'≠g):gD w' g' xs:=by
 unfold gD;rw [hk.block g' h.lt hne];exact h
end Go.Proofs.YtacgbldlonoaaaaGreatDoor
namespace Go.Proofs
open Go.Shelf YtacgbldlonoaaaaGreatDoor
def Tryz.sortL_ren:Go.Shelf.Ren:=⟨fun|5=>123|8=>175|7=>174|19=>210|20=>211|10=>201|11=>202|12=>203|13=>204|14=>205|15=>206|16=>207|17=>208|18=>209|30=>235|31=>236|32=>237|33=>238|34=>239|35=>240|40=>254|n=>n,fun|23=>24|25=>3|3=>3|32=>203|22=>24|0=>0|44=>168|46=>243|4=>4|36=>235|35=>234|41=>195|5=>5|9=>9|53=>270|57=>274|63=>290|64=>209|n=>n,fun|n=>n⟩
theorem Tryz.sortL:Go.Proofs.SlLaysM.n5 Tryz.prog Tryz.sortL_ren:={
 mixed:=Aab
 f5:=⟨Tryz.f123.name,Aae,Tryz.func123.trans (congrArg some Aab)⟩
 f7:=⟨Tryz.f174.name,Aae,Tryz.func174.trans (congrArg some Aab)⟩
 f8:=Tryz.func175.trans (congrArg some Aab)
 f10:=⟨Tryz.f201.name,Aae,Tryz.func201.trans (congrArg some Aab)⟩
 f11:=⟨Tryz.f202.name,Aae,Tryz.func202.trans (congrArg some Aab)⟩
 f12:=⟨Tryz.f203.name,Aae,Tryz.func203.trans (congrArg some Aab)⟩
 f13:=⟨Tryz.f204.name,Aae,Tryz.func204.trans (congrArg some Aab)⟩
 f14:=⟨Tryz.f205.name,Aae,Tryz.func205.trans (congrArg some Aab)⟩
 f15:=⟨Tryz.f206.name,Aae,Tryz.func206.trans (congrArg some Aab)⟩
 f16:=⟨Tryz.f207.name,Aae,Tryz.func207.trans (congrArg some Aab)⟩
 f17:=⟨Tryz.f208.name,Aae,Tryz.func208.trans (congrArg some Aab)⟩
 f18:=⟨Tryz.f209.name,Aae,Tryz.func209.trans (congrArg some Aab)⟩
 f19:=Tryz.func210.trans (congrArg some Aab)
 f20:=Tryz.func211.trans (congrArg some Aab)
 f30:=⟨Tryz.f235.name,Aae,Tryz.func235.trans (congrArg some Aab)⟩
 f31:=Tryz.func236.trans (congrArg some Aab)
 f32:=Tryz.func237.trans (congrArg some Aab)
 f33:=⟨Tryz.f238.name,Aae,Tryz.func238.trans (congrArg some Aab)⟩
 f34:=⟨Tryz.f239.name,Aae,Tryz.func239.trans (congrArg some Aab)⟩
 f35:=⟨Tryz.f240.name,Aae,Tryz.func240.trans (congrArg some Aab)⟩
 f40:=⟨Tryz.f254.name,Aae,Tryz.func254.trans (congrArg some Aab)⟩
 t0:=Tryz.underlying0
 a0:=Tryz.isAgg0
 z0:=Tryz.sizeOf0
 v0:=Tryz.zeroValue0
 t3:=Tryz.underlying3
 a3:=Tryz.isAgg3
 z3:=Tryz.sizeOf3
 v3:=Tryz.zeroValue3
 t4:=Tryz.underlying4
 a4:=Tryz.isAgg4
 z4:=Tryz.sizeOf4
 v4:=Tryz.zeroValue4
 t5:=Tryz.underlying5
 a5:=Tryz.isAgg5
 z5:=Tryz.sizeOf5
 v5:=Tryz.zeroValue5
 t9:=Tryz.underlying9
 a9:=Tryz.isAgg9
 z9:=Tryz.sizeOf9
 v9:=Tryz.zeroValue9
 t22:=Tryz.underlying24
 a22:=Tryz.isAgg24
 z22:=Tryz.sizeOf24
 v22:=Tryz.zeroValue24
 t23:=Tryz.underlying24
 a23:=Tryz.isAgg24
 z23:=Tryz.sizeOf24
 v23:=Tryz.zeroValue24
 t25:=Tryz.underlying3
 a25:=Tryz.isAgg3
 z25:=Tryz.sizeOf3
 v25:=Tryz.zeroValue3
 t32:=Tryz.underlying203
 a32:=Tryz.isAgg203
 z32:=Tryz.sizeOf203
 v32:=Tryz.zeroValue203
 t35:=Tryz.underlying234
 a35:=Tryz.isAgg234
 z35:=Tryz.sizeOf234
 v35:=Tryz.zeroValue234
 t36:=Tryz.underlying235
 a36:=Tryz.isAgg235
 z36:=Tryz.sizeOf235
 v36:=Tryz.zeroValue235
 t41:=Tryz.underlying195
 a41:=Tryz.isAgg195
 z41:=Tryz.sizeOf195
 v41:=Tryz.zeroValue195
 t44:=Tryz.underlying168
 a44:=Tryz.isAgg168
 z44:=Tryz.sizeOf168
 v44:=Tryz.zeroValue168
 t46:=Tryz.underlying243
 a46:=Tryz.isAgg243
 z46:=Tryz.sizeOf243
 v46:=Tryz.zeroValue243
 t53:=Tryz.underlying270
 a53:=Tryz.isAgg270
 z53:=Tryz.sizeOf270
 v53:=Tryz.zeroValue270
 t57:=Tryz.underlying274
 a57:=Tryz.isAgg274
 z57:=Tryz.sizeOf274
 v57:=Tryz.zeroValue274
 t63:=Tryz.underlying290
 a63:=Tryz.isAgg290
 z63:=Tryz.sizeOf290
 v63:=Tryz.zeroValue290
 t64:=Tryz.underlying209
 a64:=Tryz.isAgg209
 z64:=Tryz.sizeOf209
 v64:=Tryz.zeroValue209}
end Go.Proofs
namespace Go.Proofs.YtacgbldlonoaaaaGreatDoor
open Go.Shelf Go.Proofs
def tJ:Go.Shelf.Ren:=⟨fun|17=>278|22=>271|29=>274|30=>275|36=>277|26=>270|33=>272|34=>273|38=>276|n=>n,fun|0=>0|3=>3|4=>4|9=>9|24=>50|40=>203|n=>n,λn=>n⟩
theorem rY:Lays2.n22 Tryz.prog tJ:={
 mixed:=Aab
 f17:=Tryz.func278.trans (congrArg some Aab)
 f22:=Tryz.func271.trans (congrArg some Aab)
 f29:=Tryz.func274.trans (congrArg some Aab)
 f30:=Tryz.func275.trans (congrArg some Aab)
 f36:=Tryz.func277.trans (congrArg some Aab)
 t0:=Tryz.underlying0
 a0:=Tryz.isAgg0
 z0:=Tryz.sizeOf0
 v0:=Tryz.zeroValue0
 t3:=Tryz.underlying3
 a3:=Tryz.isAgg3
 z3:=Tryz.sizeOf3
 v3:=Tryz.zeroValue3
 t4:=Tryz.underlying4
 a4:=Tryz.isAgg4
 z4:=Tryz.sizeOf4
 v4:=Tryz.zeroValue4
 t9:=Tryz.underlying9
 a9:=Tryz.isAgg9
 z9:=Tryz.sizeOf9
 v9:=Tryz.zeroValue9
 t24:=Tryz.underlying50
 a24:=Tryz.isAgg50
 z24:=Tryz.sizeOf50
 v24:=Tryz.zeroValue50
 i9:=by kernel_rfl}
theorem Dy:Lays2.n26 Tryz.prog tJ:={
 mixed:=Aab
 f26:=Tryz.func270.trans (congrArg some Aab)
 f33:=Tryz.func272.trans (congrArg some Aab)
 f34:=Tryz.func273.trans (congrArg some Aab)
 f38:=Tryz.func276.trans (congrArg some Aab)
 t0:=Tryz.underlying0
 a0:=Tryz.isAgg0
 z0:=Tryz.sizeOf0
 v0:=Tryz.zeroValue0
 t3:=Tryz.underlying3
 a3:=Tryz.isAgg3
 z3:=Tryz.sizeOf3
 v3:=Tryz.zeroValue3
 t4:=Tryz.underlying4
 a4:=Tryz.isAgg4
 z4:=Tryz.sizeOf4
 v4:=Tryz.zeroValue4
 t9:=Tryz.underlying9
 a9:=Tryz.isAgg9
 z9:=Tryz.sizeOf9
 v9:=Tryz.zeroValue9
 t24:=Tryz.underlying50
 a24:=Tryz.isAgg50
 z24:=Tryz.sizeOf50
 v24:=Tryz.zeroValue50
 t40:=Tryz.underlying203
 a40:=Tryz.isAgg203
 z40:=Tryz.sizeOf203
 v40:=Tryz.zeroValue203}
end Go.Proofs.YtacgbldlonoaaaaGreatDoor
namespace Go.Proofs
open Go.Shelf YtacgbldlonoaaaaGreatDoor
def Tryz.keysL_ren:Go.Shelf.Ren:=⟨fun|7=>234|10=>253|n=>n,fun|23=>259|26=>3|3=>262|28=>268|0=>0|27=>267|33=>101|4=>4|n=>n,fun|n=>n⟩
theorem Tryz.keysL:Go.Proofs.SlLaysZI.n7 Tryz.prog Tryz.keysL_ren:={
 mixed:=Aab
 f7:=⟨Tryz.f234.name,Aae,Tryz.func234.trans (congrArg some Aab)⟩
 f10:=⟨Tryz.f253.name,Aae,Tryz.func253.trans (congrArg some Aab)⟩
 t0:=Tryz.underlying0
 a0:=Tryz.isAgg0
 z0:=Tryz.sizeOf0
 v0:=Tryz.zeroValue0
 t4:=Tryz.underlying4
 a4:=Tryz.isAgg4
 z4:=Tryz.sizeOf4
 v4:=Tryz.zeroValue4
 t23:=Tryz.underlying259
 a23:=Tryz.isAgg259
 z23:=Tryz.sizeOf259
 v23:=Tryz.zeroValue259
 t26:=Tryz.underlying3
 a26:=Tryz.isAgg3
 z26:=Tryz.sizeOf3
 v26:=Tryz.zeroValue3
 t27:=Tryz.underlying267
 a27:=Tryz.isAgg267
 z27:=Tryz.sizeOf267
 v27:=Tryz.zeroValue267
 t28:=Tryz.underlying268
 a28:=Tryz.isAgg268
 z28:=Tryz.sizeOf268
 v28:=Tryz.zeroValue268
 t33:=Tryz.underlying101
 a33:=Tryz.isAgg101
 z33:=Tryz.sizeOf101
 v33:=Tryz.zeroValue101}
def Tryz.sortedL_ren:Go.Shelf.Ren:=⟨fun|6=>233|8=>252|9=>123|11=>266|13=>175|12=>174|23=>210|24=>211|14=>201|15=>202|16=>203|17=>204|18=>205|19=>206|20=>207|21=>208|22=>209|25=>235|26=>236|27=>237|28=>238|29=>239|30=>240|31=>254|n=>n,fun|26=>3|28=>268|24=>24|0=>0|3=>3|37=>203|48=>168|50=>243|4=>4|40=>235|39=>234|45=>195|5=>5|9=>9|51=>270|55=>274|57=>290|58=>209|33=>101|n=>n,fun|n=>n⟩
theorem Tryz.sortedL:Go.Proofs.SlLaysZI.n6 Tryz.prog Tryz.sortedL_ren:={
 mixed:=Aab
 f6:=⟨Tryz.f233.name,Aae,Tryz.func233.trans (congrArg some Aab)⟩
 f8:=⟨Tryz.f252.name,Aae,Tryz.func252.trans (congrArg some Aab)⟩
 f11:=⟨Tryz.f266.name,Aae,Tryz.func266.trans (congrArg some Aab)⟩
 t0:=Tryz.underlying0
 a0:=Tryz.isAgg0
 z0:=Tryz.sizeOf0
 v0:=Tryz.zeroValue0
 t24:=Tryz.underlying24
 a24:=Tryz.isAgg24
 z24:=Tryz.sizeOf24
 v24:=Tryz.zeroValue24
 t26:=Tryz.underlying3
 a26:=Tryz.isAgg3
 z26:=Tryz.sizeOf3
 v26:=Tryz.zeroValue3
 t28:=Tryz.underlying268
 a28:=Tryz.isAgg268
 z28:=Tryz.sizeOf268
 v28:=Tryz.zeroValue268
 i26:=by kernel_rfl}
end Go.Proofs
