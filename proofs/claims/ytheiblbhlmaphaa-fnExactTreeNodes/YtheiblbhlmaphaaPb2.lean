/-
  Mix4, MixT, TrNodM, NdNewS, TrNodS, TrNodI.
-/
import Derived.Test.YtheiblbhlmaphaaPb1
import Derived.Test.YtheiblbhlmaphaaPbZ1
import Derived.Test.YtheiblbhlmaphaaPa8
import Derived.Test.YtheiblbhlmaphaaPa7
import Derived.Test.YtheiblbhlmaphaaPa9
namespace Go.Proofs.Ytheiblbhlmaphaa
open Go.RowKit
section
variable {P:Program} {ops:Array Oper} {Q:Exit→Act→World→Prop} {md:Region.Mode} {E b:Nat}
def wpMixB (P:Program) (md:Region.Mode) (ops:Array Oper) (Q:Exit→Act→World→Prop) (E b:Nat):Nat→Array Bool→Act→World→Prop
 |0,listed,a,w=>Region.ready md ops listed=[]∧∀x,Ge w x→Q .normal a x
 |fuel+1,listed,a,w=>∀x,Ge w x→(Region.ready md ops listed=[]→Q .normal a x)∧∀i∈Region.ready md ops listed,
  (i=E→wpOp P ops Q i (fun a' y=>wpAny P md ops Q fuel (listed.setIfInBounds i true) a' y) a x)∧
  (i≠E→wpOp P ops Q i (fun a' y=>Below b x y∧wpMixB P md ops Q E b fuel (listed.setIfInBounds i true) a' y) a x)
theorem wpMixB_grow {fuel:Nat} {listed:Array Bool} {a:Act} {w x:World} (hx:Ge w x) (h:wpMixB P md ops Q E b fuel listed a w):wpMixB P md ops Q E b fuel listed a x:=by
 exact Zb2
theorem wpAny_of_mixB:∀(fuel:Nat) (listed:Array Bool) (a:Act) (w:World),wpMixB P md ops Q E b fuel listed a w→wpAny P md ops Q fuel listed a w
 |0,_,_,w,h=>⟨h.1,h.2 w (Below.refl _ _)⟩
 |fuel+1,_,_,w,h=>⟨(h w (Below.refl _ _)).1,fun i hi=>by
  by_cases hE:i=E
  ·exact((h w (Below.refl _ _)).2 i hi).1 hE
  ·exact wpOp_mono (fun a' y hy=>wpAny_of_mixB fuel _ a' y hy.2) (((h w (Below.refl _ _)).2 i hi).2 hE)⟩
def YieldsB (P:Program) (ops:Array Oper) (b:Nat) (o:Oper) (v:Value) (a:Act) (w:World):Prop:=
 (Region.wanted o (yielded ops a.tmps)=true∧∀x,Below b w x→Oper.quietUpon P (Ge x) x v ((execOp a.eval o).run P x))∨(Region.wanted o (yielded ops a.tmps)=false∧v=undef)
theorem YieldsB.toG {o:Oper} {v:Value} {a:Act} {w:World} (h:YieldsB P ops b o v a w) (hb:b≤w.heap.size):YieldsG P ops o v a w:=h.imp (fun⟨p,q⟩=>⟨p,fun x hx=>q x (hx.mono hb)⟩) id
theorem wpMixB_first {i:Nat} {oi:Oper} {v:Value} (n:Nat) (hi:ops[i]?=some oi) (hE:i∈anc md ops E n) (hsel:∀(j:Nat) (o:Oper) cs b,ops[j]?=some o→o.op≠ .select cs b) (hQ:∀c a w,Q (.panic c) (a.put oi.dst v) w→Q (.panic c) a w):
 ∀(fuel:Nat) (listed:Array Bool) (a:Act) (w:World),b≤w.heap.size→ClosedL md ops listed→
  (∀j oj,ops[j]?=some oj→j≠i→listed.getD j true=false→(∀e∈oj.after,Region.binds md e=true→e.on≠i)→oi.apart ops oj=true)→
  i∈Region.ready md ops listed→YieldsB P ops b oi v a w→wpMixB P md ops Q E b fuel (listed.setIfInBounds i true) (a.put oi.dst v) w→wpMixB P md ops Q E b (fuel+1) listed a w:=by
 open Sb16 in exact Yb7
structure Und (b:Nat) (w:World) where
 x:World
 h:Below b w x
theorem cell_und {b:Nat} {w:World} {g i:Nat} {v:Option Value} (hg:g < b) (h:w.cell? ⟨g,i,none⟩=v):∀p:Und b w,p.x.cell? ⟨g,i,none⟩=v:=fun p=>(p.h.cell (p:=⟨g,i,none⟩) hg).trans h
theorem wpMixB_take (i n:Nat) {oi:Oper} {fuel:Nat} {listed:Array Bool} {a:Act} {w:World} (hb:b≤w.heap.size) (hi:ops[i]?=some oi) (hs:Region.noSelect ops=true) (hf:Region.free md ops listed i=true) (hr:(Region.ready md ops listed).contains i=true)
 (hcl:closedB md ops listed=true) (hE:(anc md ops E n).contains i=true)
 (hQ:∀v c a w,Q (.panic c) (a.put oi.dst v) w→Q (.panic c) a w)
 (h:∀K:Act→Prop,(∀a',wpMixB P md ops Q E b fuel (listed.setIfInBounds i true) a' w→K a')→if Region.wanted oi (yielded ops a.tmps) then∃v,(∀p:Und b w,Oper.quietUpon P (Ge p.x) p.x v ((execOp a.eval oi).run P p.x))∧K (a.put oi.dst v) else K (a.put oi.dst undef)):
 wpMixB P md ops Q E b (fuel+1) listed a w:=by
 have h':=h _ fun _ h=>h
 have hE':i∈anc md ops E n:=by simpa using hE
 by_cases hw:Region.wanted oi (yielded ops a.tmps)=true
 ·rw [if_pos hw] at h';obtain⟨v,hv,hk⟩:=h';exact wpMixB_first n hi hE' (Region.noSelect_spec hs) (hQ v) fuel listed a w hb (closedB_spec hcl) (Region.free_spec hi hf) (by simpa using hr) (.inl ⟨hw,fun x hx=>hv ⟨x,hx⟩⟩) hk
 ·rw [if_neg hw] at h';exact wpMixB_first n hi hE' (Region.noSelect_spec hs) (hQ undef) fuel listed a w hb (closedB_spec hcl) (Region.free_spec hi hf) (by simpa using hr) (.inr ⟨by simpa using hw,rfl⟩) h'
theorem wpMixB_one (i:Nat) {oi:Oper} {fuel:Nat} {listed:Array Bool} {a:Act} {w:World} (hi:ops[i]?=some oi) (hr:Region.ready md ops listed=[i]) (hw:Region.wanted oi (yielded ops a.tmps)=true) (hiE:i≠E)
 (h:∀x,Ge w x→oi.wp P a x (fun a' y=>Below b x y∧wpMixB P md ops Q E b fuel (listed.setIfInBounds i true) a' y) Q):wpMixB P md ops Q E b (fuel+1) listed a w:=by
 exact Zb3
theorem wpMixB_two (i j:Nat) {oi oj:Oper} {fuel:Nat} {listed:Array Bool} {a:Act} {w:World} (hi:ops[i]?=some oi) (hj:ops[j]?=some oj) (hr:Region.ready md ops listed=[i,j]) (hwi:Region.wanted oi (yielded ops a.tmps)=true) (hwj:Region.wanted oj (yielded ops a.tmps)=true) (hiE:i≠E) (hjE:j≠E)
 (h1:∀x,Ge w x→oi.wp P a x (fun a' y=>Below b x y∧wpMixB P md ops Q E b fuel (listed.setIfInBounds i true) a' y) Q)
 (h2:∀x,Ge w x→oj.wp P a x (fun a' y=>Below b x y∧wpMixB P md ops Q E b fuel (listed.setIfInBounds j true) a' y) Q):wpMixB P md ops Q E b (fuel+1) listed a w:=by
 intro x hx;rw [hr];refine⟨fun h=>(by cases h),fun k hk=>?_⟩;have hk':k=i∨k=j:=by simpa using hk
 rcases hk' with rfl|rfl
 ·refine⟨fun e=>absurd e hiE,fun _=>?_⟩;exact Zb6
 ·refine⟨fun e=>absurd e hjE,fun _=>?_⟩;exact Zb7
theorem wpMixB_leave {fuel:Nat} {listed:Array Bool} {a:Act} {w:World} (hr:Region.ready md ops listed=[E]) (h:∀x,Ge w x→wpAny P md ops Q (fuel+1) listed a x):wpMixB P md ops Q E b (fuel+1) listed a w:=fun x hx=>⟨(h x hx).1,fun i hi=>⟨fun _=>(h x hx).2 i hi,fun hne=>absurd (by rw [hr] at hi;simpa using hi) hne⟩⟩
theorem wp_region_mixB (E b:Nat) {id:Nat} {a:Act} {w:World} (hm:P.follows .mixedOrders=true) (h:wpMixB P .any ops Q E b ops.size (Array.replicate ops.size false) a w):(Code.region id ops true).wp P Q a w:=
 wp_region_any hm (wpAny_of_mixB (E:=E) (b:=b) _ _ _ _ (wpMixB_grow (w:=w) (x:={w with drawn:=w.drawn+1}) ⟨rfl,rfl,rfl,Nat.le_refl _,fun _ _=>rfl⟩ h))
end
section
variable {P:Program} {ops:Array Oper} {Q:Exit→Act→World→Prop} {md:Region.Mode} {E b:Nat} {is:List Nat} {i:Nat} {oi:Oper} {fuel:Nat} {listed:Array Bool} {a:Act} {w:World}
def TkL (_:List Nat) (p:Prop):Prop:=p
theorem tk (is:List Nat) {p:Prop} (h:TkL is p):p:=h
theorem tkN {p:Prop} (h:p):TkL [] p:=h
theorem tk0 (h:∀K:Act→Prop,(∀a',TkL is (wpMix P md ops Q fuel (listed.setIfInBounds i true) a' w)→K a')→if Region.wanted oi (yielded ops a.tmps) then∃v,(∀p:Regrown,Oper.quietUpon P (Ge (Gr w p)) (Gr w p) v ((execOp a.eval oi).run P (Gr w p)))∧K (a.put oi.dst v) else K (a.put oi.dst undef)) (hi:ops[i]?=some oi:=by rfl) (hs:Region.noSelect ops=true:=by kernel_rfl) (hf:Region.free md ops listed i=true:=by kernel_rfl) (hr:(Region.ready md ops listed).contains i=true:=by kernel_rfl) (hQ:∀v c a w,Q (.panic c) (a.put oi.dst v) w→Q (.panic c) a w:=by exact fun _ _ _ _ h=>h):TkL (i::is) (wpMix P md ops Q (fuel+1) listed a w):=
 wpMix_take i hi hs hf hr hQ h
theorem tkE (h:∀K:Act→Prop,(∀a',TkL is (wpMixE P md ops Q E fuel (listed.setIfInBounds i true) a' w)→K a')→if Region.wanted oi (yielded ops a.tmps) then∃v,(∀p:Regrown,Oper.quietUpon P (Ge (Gr w p)) (Gr w p) v ((execOp a.eval oi).run P (Gr w p)))∧K (a.put oi.dst v) else K (a.put oi.dst undef)) (hi:ops[i]?=some oi:=by rfl) (hs:Region.noSelect ops=true:=by kernel_rfl) (hf:Region.free md ops listed i=true:=by kernel_rfl) (hr:(Region.ready md ops listed).contains i=true:=by kernel_rfl) (hcl:closedB md ops listed=true:=by kernel_rfl) (hE:(anc md ops E 20).contains i=true:=by kernel_rfl) (hQ:∀v c a w,Q (.panic c) (a.put oi.dst v) w→Q (.panic c) a w:=by exact fun _ _ _ _ h=>h):TkL (i::is) (wpMixE P md ops Q E (fuel+1) listed a w):=
 wpMixE_take i 20 hi hs hf hr hcl hE hQ h
theorem tkF (h:∀K:Act→Prop,(∀a',TkL is (wpMixF P md ops Q E fuel (listed.setIfInBounds i true) a' w)→K a')→if Region.wanted oi (yielded ops a.tmps) then∃v,(∀p:Regrown,Oper.quietUpon P (Ge (Gr w p)) (Gr w p) v ((execOp a.eval oi).run P (Gr w p)))∧K (a.put oi.dst v) else K (a.put oi.dst undef)) (hi:ops[i]?=some oi:=by rfl) (hs:Region.noSelect ops=true:=by kernel_rfl) (hf:Region.free md ops listed i=true:=by kernel_rfl) (hr:(Region.ready md ops listed).contains i=true:=by kernel_rfl) (hcl:closedB md ops listed=true:=by kernel_rfl) (hE:(anc md ops E 20).contains i=true:=by kernel_rfl) (hQ:∀v c a w,Q (.panic c) (a.put oi.dst v) w→Q (.panic c) a w:=by exact fun _ _ _ _ h=>h):TkL (i::is) (wpMixF P md ops Q E (fuel+1) listed a w):=
 wpMixF_take i 20 hi hs hf hr hcl hE hQ h
theorem tkB (hb:b≤w.heap.size) (h:∀K:Act→Prop,(∀a',TkL is (wpMixB P md ops Q E b fuel (listed.setIfInBounds i true) a' w)→K a')→if Region.wanted oi (yielded ops a.tmps) then∃v,(∀p:Und b w,Oper.quietUpon P (Ge p.x) p.x v ((execOp a.eval oi).run P p.x))∧K (a.put oi.dst v) else K (a.put oi.dst undef)) (hi:ops[i]?=some oi:=by rfl) (hs:Region.noSelect ops=true:=by kernel_rfl) (hf:Region.free md ops listed i=true:=by kernel_rfl) (hr:(Region.ready md ops listed).contains i=true:=by kernel_rfl) (hcl:closedB md ops listed=true:=by kernel_rfl) (hE:(anc md ops E 20).contains i=true:=by kernel_rfl) (hQ:∀v c a w,Q (.panic c) (a.put oi.dst v) w→Q (.panic c) a w:=by exact fun _ _ _ _ h=>h):TkL (i::is) (wpMixB P md ops Q E b (fuel+1) listed a w):=
 wpMixB_take i 20 hb hi hs hf hr hcl hE hQ h
end
open Mth
def nodesTo (l:List Int) (k:Nat):List Nd:=(List.range k).map (fun i:Nat=>(newN (i:Int) (l[i]?.getD 0) (kidsN l (i:Int))).1)
def nodesT (l:List Int):List Nd:=if treeB l=true then nodesTo l l.length else[]
theorem nodesTo_succ (l:List Int) (k:Nat) (hk:k < l.length):nodesTo l (k+1)=nodesTo l k++[(newN (k:Int) l[k] (kidsN l (k:Int))).1]:=by
 simp[nodesTo,List.range_succ,List.getElem?_eq_getElem hk]
theorem nodesT_yes {l:List Int} (h:treeB l=true):nodesT l=nodesTo l l.length:=if_pos h
theorem nodesT_no {l:List Int} (h:treeB l=false):nodesT l=[]:=if_neg (by rw [h];simp)
theorem NL.nil {w:World} {lo:Nat} {v:Value} (h:w.ownsRow lo 42 9 v 0 []):NL w lo v []:=
 ⟨h,fun x hx=>by simp at hx,fun b hb=>by simp[fpN] at hb,by simp[fpN],fun b _ hm=>by simp[fpN] at hm⟩
theorem ints_form {w:World} {B:Nat} {v:Value} {l:List Int} (h:w.ownsRow B 3 1 v l.length (GR.flat encNum l)):∃b c,v= .slice b l.length c∧(b=none→c=0)∧IntsAt w b l:=by
 obtain⟨b,c,rfl,hat⟩:=GR.own_at encNum_length h;refine⟨b,c,rfl,fun hb=>?_,hat⟩;rcases h.2 with⟨hv,_⟩|⟨g,cap,cur,hv,_⟩
 ·simp only[Value.slice.injEq] at hv;exact hv.2.2
 ·simp only[Value.slice.injEq] at hv;rw [hb] at hv;exact absurd hv.1 (by simp)
theorem wpList_append_eqN {P:Program} {w:World} {ops:Array Oper} {rest:List Oper} {o:Oper} {a:Act} {Q:Exit→Act→World→Prop} (hgd:o.guard=none) (s x:Operand) (t:TypeId)
 (ho:o.op= .call {callee:= .builtin .append,args:=#[s,x],argTypes:=#[t,t]}) (vs vx:Value) (hs:a.eval s=vs) (hx:a.eval x=vx) (v':Value) (w':World) (hrun:(Builtin.append_ #[t,t] o.type #[vs,vx]).run P w= .ok v' w')
 (h:wpList P ops Q rest (a.put o.dst v') w'):wpList P ops Q (o::rest) a w:=by
 refine wpList_plain hgd fun K hK=>?_
 unfold Oper.wp;simp[execOp,ho,resolve,invoke,builtin,hs,hx,hrun,Result.andThen];exact hK _ _ h
theorem enc9_one (x:NdI):∀u∈enc9 (r9 x),u.oneCell'=true:=fun u hu=>by
 simp[enc9,r9] at hu;rcases hu with rfl|rfl|rfl|rfl|rfl|rfl|rfl|rfl|rfl<;>rfl
theorem NL.more {w1 wz:World} {lo q:Nat} {v:Value} {L:List NdI} {N1:Nd} {A3:Ads} {G3:Blks} (h:NL w1 lo v L) (hlo:lo≤w1.heap.size) (hlen:L.length≤1000) (hb:Below w1.heap.size w1 wz) (hW:NodeW wz A3 G3 N1) (hnd:(G3.all N1).Nodup) (hrg:∀x∈G3.all N1,w1.heap.size≤x∧x≠q∧x < wz.heap.size):
 ∃v' w2,(Builtin.append_ #[26,26] 26 #[v,.slice (some ⟨wz.heap.size,0,none⟩) 1 1]).run Try.prog (wz.alloc (.cells (ndc N1 A3) 42))= .ok v' w2∧NL w2 lo v' (L++[(N1,A3,G3)])∧(wz.alloc (.cells (ndc N1 A3) 42)).grownBy w2 v.ownBlock:=by
 obtain⟨i0,hi,hz0,hz1,hz2⟩:=info_parts infoNode;have hs:=hb.size;have hz:(wz.alloc (.cells (ndc N1 A3) 42)).heap.size=wz.heap.size+1:=by simp
 have hb2:=hb.trans ((below_one wz (.cells (ndc N1 A3) 42)).mono hs);have h3:=h.step hb2;obtain⟨v',w2,hrun,hown,hg,hv⟩:=run_append_where (P:=Try.prog) (wz.alloc (.cells (ndc N1 A3) 42)) lo 26 26 42 i0 (.agg zc9) 9 152 Try.underlying26 hi hz0 hz1 hz2 rfl (by decide) v L.length (GR.flat enc9 (rows9 L)) h3.own ⟨wz.heap.size,0,none⟩ 1 1 (enc9 (r9 (N1,A3,G3))) rfl (World.news_of_block (heap_alloc_new wz _)) (enc9_one _) (by unfold maxLen;omega) (by omega) (by omega);exact⟨v',w2,hrun,NL.app (m:=w1.heap.size) (x:=(N1,A3,G3)) h3 (hW.below (below_one wz _)) hlo hnd (fun b hb=>⟨(hrg b hb).1,by have:=(hrg b hb).2.2;omega⟩) (fun b hb=>(h.rng b hb).2) (fun b hb=>(h.blk_lt b hb).2) hown hg hv,hg⟩
theorem fpW_lt1 {α:Type} {enc:α→List Value} {sz:Nat} {w:World} {a:Option Addr} {g:Nat} {l:List α} (h:GR.W enc sz w a g l):∀x∈fp g l,x < w.heap.size:=fun x hx=>by
 have:=of_fp hx;rw [this.1];exact(h 0 this.2).2.1
theorem NodeW.lt {w:World} {A:Ads} {G:Blks} {n:Nd} (h:NodeW w A G n):∀x∈G.all n,x < w.heap.size:=fun x hx=>by
 obtain⟨T,hT,hl,hr⟩:=h.s;rcases Blks.mem_all.1 hx with h1|h1|h1|h1|h1|h1
 ·exact fpW_lt1 h.k x h1
 ·exact fpW_lt1 h.p x h1
 ·exact fpW_lt1 h.o x h1
 ·have:=of_fp h1;rw [this.1];exact fpW_lt1 hT _ (fp_mem (by omega))
 ·obtain⟨i,hi,rfl,hpos⟩:=of_fpI h1;obtain⟨b,d,ht,hi2⟩:=hr i hi;exact fpW_lt1 hi2 _ (fp_mem hpos)
 ·exact fpW_lt1 h.r x h1
set_option maxHeartbeats 4000000
set_option maxRecDepth 100000
theorem specNodeNew (id par:Int) (a:Option Addr) (cap:Nat) (kids:List Int) (w:World) (hl:kids.length≤1048576) (hcap:a=none→cap=0) (ha:IntsAt w a kids):
 Calls Try.prog 15 #[.int .i64 id,.int .i64 par,.slice a kids.length cap] w (GivesN w (newN id par kids)):=by
 obtain⟨i0,hi,hz0,hz1,hz2⟩:=info_parts infoSeen;obtain⟨j0,hj,hy0,hy1,hy2⟩:=info_parts infoInt;have HA:=hide ha;have HRB:=hide (heap_alloc_new w (.cells zc9 42));clear ha;obtain⟨RN,hRN⟩:∃R,newN id par kids=R:=⟨_,rfl⟩;rw [hRN];have HRN:=hide hRN;clear hRN;unfold GivesN;go_enter Try.func15,Try.ntmps15
 go_upto_region 1 with fail;refine wp_at (fun W0 hW0=>?_);have HR0:Hid (W0.heap[w.heap.size]?=some (.cells zc9 42 (0,0))):=by rw [hW0];exact HRB
 have HB0:Hid (Below w.heap.size w W0):=by rw [hW0];exact below_one w _
 have HW0S:Hid (W0.heap.size=w.heap.size+1):=by rw [hW0];exact hide (by simp)
 clear hW0 HRB;have hlit:(W0.alloc (.cells #[] 3)).ownsRow W0.heap.size 3 1 (.slice (some ⟨W0.heap.size,0,none⟩) 0 0) 0 []:=World.ownsRow_lit (base:=W0.heap.size) (e:=3) (size:=1) W0 #[] 0 (Nat.le_refl _) (by decide) rfl;go_cut [8] (fun p8 wx=>∃(nb:Nat) (ka:Option Addr) (kc:Nat),p8= .pointer (some ⟨nb,0,none⟩)∧wx.heap[nb]?=some (.cells (nnc id par (.slice ka kids.length kc) (.slice none 0 0)) 42 (0,0))∧wx.ownsRow W0.heap.size 3 1 (.slice ka kids.length kc) kids.length (GR.flat encNum kids)∧(∀x,(Value.slice ka kids.length kc).ownBlock=some x→x < nb)∧W0.heap.size < nb∧Below W0.heap.size W0 wx)
 case first=>
  cases a with
  |none=>
   have hl0:kids=[]:=GR.none_nil HA
   subst hl0
   have hc0:=hcap rfl
   subst hc0
   go_wp2_with (at_builtin;refine wpList_append_own_none rfl _ _ 22 rfl W0.heap.size 3 j0 1 Try.underlying22 hj _ 0 [] rfl hlit rfl ?_)
   go_meet
   case rel=>
    refine⟨W0.heap.size+1,some ⟨W0.heap.size,0,none⟩,0,rfl,?_,?_,?_,by omega,(below_one W0 _).alloc (by simp) _⟩
    ·have h:=heap_alloc_new (W0.alloc (.cells #[] 3)) (.cells (nnc id par (.slice (some ⟨W0.heap.size,0,none⟩) 0 0) (.slice none 0 0)) 42);rwa [show(W0.alloc (.cells #[] 3)).heap.size=W0.heap.size+1 by simp] at h
    ·exact hlit.alloc _
    ·intro x hx;have:x=W0.heap.size:=by simpa [Value.ownBlock] using hx.symm
     omega
  |some x=>
   have HN:=hide (GR.At.news encNum_length (by omega) (GR.At.below HA (HB0.trans ((below_one W0 (.cells #[] 3)).mono HB0.size))))
   go_wp2_with (at_builtin;refine wpList_append_own _ rfl _ _ 22 rfl W0.heap.size 3 j0 (.int .i64 0) 1 8 Try.underlying22 hj hy0 hy1 hy2 rfl (by decide) _ 0 [] rfl hlit x kids.length cap (GR.flat encNum kids) rfl ?c0 ?c1 ?c2 ?c3 ?c4 ?c5 ?_)
   case c0=>exact GR.flat_length encNum 1 encNum_length kids
   case c1=>exact HN
   case c2=>exact GR.flat_oneCell encNum_one kids
   case c3=>unfold maxLen;omega
   case c4=>omega
   case c5=>simp
   intro v' w1 hown' hgrow _
   have ho:w1.ownsRow W0.heap.size 3 1 v' kids.length (GR.flat encNum kids):=by simpa using hown'
   have hb:Below W0.heap.size W0 w1:=(below_one W0 _).grown hgrow (by simp) (fun k hk=>by cases hk;exact Nat.le_refl _)
   have hs1:W0.heap.size+1≤w1.heap.size:=by have:=hgrow.size;simpa using this
   obtain⟨ka,kc,rfl,_⟩:=GR.own_at (enc:=encNum) (sz:=1) encNum_length ho
   have HO:=hide ho
   have HB:=hide hb
   clear hown' hgrow ho hb hlit
   go_wp2_with fail
   go_meet
   case rel=>exact⟨w1.heap.size,ka,kc,rfl,heap_alloc_new _ _,HO.alloc _,fun x hx=>(HO.lt x hx).2,by omega,HB.alloc HB.size _⟩
 case rest=>
  obtain⟨nb,ka,kc,rfl,hnb,hko,hkl,hnb0,hb0⟩:=hcut;have hW0s:=unhide HW0S;have HO3:=hide (GR.own_lower (b':=w.heap.size+1) hko (by omega));have HKL:=hide hkl;have HR3:=hide (obj_step HR0 hb0);have HB3:=hide (HB0.trans (hb0.mono HB0.size));have HNN:=hide (show NN wc wc nb id par (.slice ka kids.length kc) (.slice none 0 0) [] from⟨KeepsL.refl _ _,hnb,World.ownsRow_nil _ _ _ _,obj_lt hnb⟩);have hw12:nb < wc.heap.size:=obj_lt hnb;have hrlt:w.heap.size < nb:=by omega
  clear hW0s;have HFS:Hid ((placeB (nnode id par kids [])=true→newN id par kids=(nnode id par kids (nearUp (nnode id par kids []) 30),true)∧ndOk (nnode id par kids (nearUp (nnode id par kids []) 30))=true)∧(placeB (nnode id par kids [])=false→newN id par kids=(zeroNd,false)∧ndOk (nnode id par kids (nearUp (nnode id par kids []) 30))=false)):=⟨fun h=>⟨new_yes h (near_all h),ok_new id par kids _ h (near_all h)⟩,fun h=>⟨new_no h,ok_not id par kids _ h⟩⟩;rw [unhide HRN] at HFS;have HNS:=hide (nearUp_succ (nnode id par kids []))
  have HNL:Hid (∀k,(nearUp (nnode id par kids []) k).length≤k):=fun k=>by
   have h:=List.length_filter_le (nearB (nnode id par kids [])) (upTo k)
   unfold nearUp
   simpa [upTo] using h
  have HN0:Hid (nearUp (nnode id par kids []) 0=[]):=rfl;have HNR:Hid (∀fs A W x,IntsAt W A.k kids→Calls Try.prog 34 #[ndv (nnode id par kids fs) A,.int .i64 x] W fun e w'=>e= .returned (.bool (nearB (nnode id par kids []) x))∧Below W.heap.size W w'):=fun fs A W x h=>specNear (nnode id par kids fs) A x W (by show kids.length≤1048600;omega) h
  generalize placeB (nnode id par kids [])=PB at *;generalize nearB (nnode id par kids [])=NB at *;generalize nearUp (nnode id par kids [])=NU at *;clear hnb hko hkl hb0 HR0 HB0 hlit;go_wp2_with fail;go_loopw [9] (fun i wr=>∃(k:Nat) (v:Value),k≤30∧i= .int .i64 k∧NN wc wr nb id par (.slice ka kids.length kc) v (NU k)) (fun i _=>30 - (intOf i).toNat)
  case atStart=>exact⟨0,.slice none 0 0,Nat.zero_le _,rfl,by rw [unhide HN0];exact HNN⟩
  case round=>
   obtain⟨k,v,hk,rfl,hN⟩:=hrel;have HN:=hide hN
   have HO4:Hid (wr.ownsRow (w.heap.size+1) 3 1 (.slice ka kids.length kc) kids.length (GR.flat encNum kids)):=HO3.kept (row:=some nb) ⟨hN.keep.os,hN.keep.tape,hN.keep.output,hN.keep.size,fun j hj hjn=>hN.keep.block j hj (fun e=>hjn (by rw [mem_one e]))⟩ (by
    cases hv:(Value.slice ka kids.length kc).ownBlock with
    |none=>exact .inl rfl
    |some j=>exact .inr (fun e=>by have:=unhide HKL j hv;injection e with e;omega))
   obtain⟨va,vc,hv,_⟩:=GR.own_at (enc:=encR3) (sz:=3) (l:=(NU k).map r3of) encR3_length (by rw [List.length_map];exact hN.own);rw [List.length_map] at hv;subst hv;obtain⟨A4,hA4,hNA4⟩:=nodeAt_new (id:=id) (par:=par) HO4 hN.own;have HLN2:=hide (HNL k);by_cases hlt:k < 30
   ·have HNC:=hide (HNR (NU k) A4 wr (k:Int) hNA4.k);rw [←hA4] at HNC;have hSU:=unhide HNS k;obtain⟨c0,c1,c2,c3,c4,c5,c6,c7,c8⟩:=nine hN.blk;clear hA4 hNA4 hN;have HSU:=hide hSU;clear hSU;go_wp2_with fail;refine HNC.mono ?_;rintro e w4 ⟨rfl,hb4⟩;have HN4:=hide (HN.step hb4);clear hb4 c0 c1 c2 c3 c4 c5 c6 c7 c8 HNC HN HO4;obtain⟨c0,c1,c2,c3,c4,c5,c6,c7,c8⟩:=nine HN4.blk;have hkw:=HN4.keep.size;cases hnb2:NB (k:Int)
    ·have HE:=hide (show NU (k+1)=NU k by rw [unhide HSU,if_neg (by rw [hnb2];simp)]);clear hnb2 HSU;go_wp2_with fail;go_roundw
     case rel=>exact⟨k+1,.slice va (NU k).length vc,by omega,by go_num,by rw [unhide HE];exact HN4⟩
     case measure=>simp[intOf];omega
    ·have HE:=hide (show NU (k+1)=NU k++[(k:Int)] by rw [unhide HSU,if_pos (by rw [hnb2])]);clear hnb2 HSU;have hown:=HN4.own;have hf6:=obj_free HN4.blk 6;have hl30:(NU k).length≤30:=Nat.le_trans HLN2 hk;go_wp2_with (at_builtin;refine wpList_append_own _ rfl _ _ 39 rfl wc.heap.size 58 i0 (.agg #[.int .i64 0,.int .i64 0,.slice none 0 0]) 3 40 Try.underlying39 hi hz0 hz1 hz2 rfl (by decide) _ _ _ rfl (hown.alloc _) ⟨w4.heap.size,0,none⟩ 1 1 (encR3 (r3of (k:Int))) rfl rfl ?c1 ?c2 ?c3 ?c4 ?c5 ?_)
     case c1=>exact World.news_of_block (heap_alloc_new w4 _)
     case c2=>exact r3_one _
     case c3=>unfold maxLen;omega
     case c4=>omega
     case c5=>simp;omega
     intro v' w5 hown' hgrow _
     obtain⟨va2,vc2,hv,_⟩:=GR.own_at (enc:=encR3) (sz:=3) (l:=(NU k++[(k:Int)]).map r3of) encR3_length (by
      have e2:GR.flat encR3 ((NU k++[(k:Int)]).map r3of)=GR.flat encR3 ((NU k).map r3of)++encR3 (r3of (k:Int)):=by rw [List.map_append,GR.flat_append];simp[GR.flat]
      rw [e2,List.length_map,List.length_append]
      exact hown')
     rw [List.length_map,List.length_append] at hv;have hv':v'= .slice va2 ((NU k).length+1) vc2:=hv;clear hv;subst hv';have HA5:=hide (HN4.app (k:Int) hown' hgrow)
     have hb5:w5.heap[nb]?=some (.cells (nnc id par (.slice ka kids.length kc) (.slice va (NU k).length vc)) 42 (0,0)):=by
      rw [hgrow.block nb (by simp;omega) (fun e=>by have:=(hown.lt _ e.symm).1;omega),Below.heap_alloc _ _ _ (by omega)];exact HN4.blk
     obtain⟨e0,e1,e2,e3,e4,e5,e6,e7,e8⟩:=nine hb5;have g6:=obj_free hb5 6;clear hown' hgrow hb5 hown c0 c1 c2 c3 c4 c5 c6 c7 c8 hf6;go_wp2_with fail;go_roundw
     case rel=>exact⟨k+1,.slice va2 ((NU k).length+1) vc2,by omega,by go_num,by rw [unhide HE];exact HA5⟩
     case measure=>simp[intOf];omega
   ·obtain rfl:k=30:=by omega
    have HR4:Hid (wr.heap[w.heap.size]?=some (.cells zc9 42 (0,0))):=hN.keep.obj HR3 (by simp;omega);have HB4:Hid (Below w.heap.size w wr):=HB3.trans (hN.keep.below (fun x hx=>by have:=mem_one hx;omega) HB3.size);have HOK:=hide (specNodeOk (nnode id par kids (NU 30)) A4 wr (sz_new (by omega) (by have:=unhide HLN2;omega)) hNA4);rw [←hA4] at HOK;obtain⟨hY,hX⟩:=unhide HFS;have HY:=hide hY;have HX:=hide hX;obtain⟨c0,c1,c2,c3,c4,c5,c6,c7,c8⟩:=nine hN.blk;clear hN hA4 hNA4 hY hX HFS;generalize ndOk (nnode id par kids (NU 30))=OK at *;generalize NU 30=F at *;go_wp2_with fail;refine HOK.mono ?_;rintro e w5 ⟨rfl,hb5⟩;have HN5:=hide (HN.step hb5);have HO5:=hide (GR.own_below HO4 hb5);have HR5:=hide (obj_step HR4 hb5);have HB5:=hide (HB4.trans (hb5.mono HB4.size));clear hb5 c0 c1 c2 c3 c4 c5 c6 c7 c8 HOK;obtain⟨c0,c1,c2,c3,c4,c5,c6,c7,c8⟩:=nine HN5.blk;obtain⟨r0,r1,r2,r3,r4,r5,r6,r7,r8⟩:=nine HR5;have f0:=obj_free HR5 0;have f1:=obj_free HR5 1;have f2:=obj_free HR5 2;have f3:=obj_free HR5 3;have f4:=obj_free HR5 4;have f5:=obj_free HR5 5;have f6:=obj_free HR5 6;have f7:=obj_free HR5 7;have f8:=obj_free HR5 8;cases hPB:PB
    ·obtain⟨e1,e2⟩:=unhide HX hPB;open Sb12 in exact Yb5
    ·obtain⟨e1,e2⟩:=unhide HY hPB;open Sb11 in exact Yb5
set_option maxHeartbeats 8000000
theorem specTreeNodes (a:Option Addr) (cap:Nat) (l:List Int) (w:World) (hl:l.length≤1048600) (ha:IntsAt w a l):
 Calls Try.prog 5 #[trv a l cap] w (GivesNL w (nodesT l)):=by
 open Sb23 in exact Yb11
set_option maxHeartbeats 8000000
theorem implTreeNodes (a:Option Addr) (cap:Nat) (l:List Int) (w:World) (hl:l.length≤1048600) (ha:IntsAt w a l):
 Calls Try.prog 7 #[trv a l cap] w (GivesNL w (nodesT l)):=by
 open Sb24 in exact Yb11
end Go.Proofs.Ytheiblbhlmaphaa
